"""[7.3]: disks, held against plain lists of blocks, and the parcels that are kept on them."""
import unittest

from moststream.disks import Disk, kept_parcels
from moststream.errors import NoBlocks, NoCut, NoNumber, NoRow
from moststream.rows import sealed
from tests.drawn import Draw, odd_things
from tests.drawn_parcels import drawn_bytes, drawn_parcel, spoiled_row
from tests.plain_rows import PlainDisk, plain_read, plain_sealed
from tests.test_rows import NO_ROWS

A, B, C = (1, 2, 3), (), (255, 0)


def disk_of(firm, waiting):
    """A disk with blocks that do not wait, and others that do."""
    disk = Disk()
    for row in firm:
        disk.write(row)
    disk.sync()
    for row in waiting:
        disk.write(row)
    return disk


def told(disk):
    return disk.blocks(), disk.synced()


class Deeds(unittest.TestCase):
    def test_empty(self):
        disk = Disk()
        self.assertEqual(told(disk), ([], 0))
        self.assertEqual(disk.sync(), 0)
        self.assertIsNone(disk.cut(()))
        self.assertIsNone(disk.drop(0))
        self.assertEqual(told(disk), ([], 0))

    def test_write_tells_its_number(self):
        disk = Disk()
        self.assertEqual([disk.write(row) for row in (A, B, C, A)], [0, 1, 2, 3])
        self.assertEqual(told(disk), ([A, B, C, A], 0))

    def test_sync_tells_how_many_waited(self):
        disk = disk_of((A,), (B, C))
        self.assertEqual(told(disk), ([A, B, C], 1))
        self.assertEqual(disk.sync(), 2)
        self.assertEqual(disk.sync(), 0)
        self.assertEqual(told(disk), ([A, B, C], 3))
        self.assertEqual(disk.write(A), 3)
        self.assertEqual(disk.sync(), 1)

    def test_rows_of_any_bytes(self):
        disk = Disk()
        for row in ((), (0,), (255,), tuple(range(256)), (7,) * 5000):
            disk.write(row)
            self.assertEqual(disk.blocks()[-1], row)

    def test_no_row(self):
        for thing in NO_ROWS:
            with self.subTest(repr(thing)[:60]):
                disk = disk_of((A,), (B,))
                self.assertRaises(NoRow, disk.write, thing)
                self.assertEqual(told(disk), ([A, B], 1))
        for thing in odd_things():
            if not isinstance(thing, tuple):
                self.assertRaises(NoRow, Disk().write, thing)

    def test_lists_that_are_returned_are_new(self):
        disk = disk_of((A,), (B,))
        disk.blocks().append(C)
        disk.blocks()[0] = None
        self.assertEqual(told(disk), ([A, B], 1))

    def test_copies_go_on_apart(self):
        disk = disk_of((A,), (C,))
        other = disk.copy()
        self.assertIs(type(other), Disk)
        self.assertEqual(told(other), told(disk))
        self.assertEqual(other.write(B), 2)
        self.assertEqual((told(disk), told(other)), (([A, C], 1), ([A, C, B], 1)))
        disk.cut((1,))
        self.assertEqual((told(disk), told(other)), (([A, (255,)], 2), ([A, C, B], 1)))
        disk.drop(0)
        other.sync()
        self.assertEqual((told(disk), told(other)), (([], 0), ([A, C, B], 3)))


class Cuts(unittest.TestCase):
    def test_first_bytes_are_there(self):
        for kept, rows in (((3, 2), [(1, 2, 3), (255, 0)]), ((0, 0), [(), ()]), ((1, 2), [(1,), (255, 0)]),
                           ((2, 0), [(1, 2), ()]), ((3, 1), [(1, 2, 3), (255,)])):
            disk = disk_of((C, A), (A, C))
            self.assertIsNone(disk.cut(kept))
            self.assertEqual(told(disk), ([C, A, *rows], 4))
            self.assertEqual(disk.sync(), 0)

    def test_none_waits(self):
        disk = disk_of((A, B), ())
        self.assertIsNone(disk.cut(()))
        self.assertEqual(told(disk), ([A, B], 2))

    def test_an_empty_block_that_waits(self):
        disk = disk_of((), (B,))
        self.assertRaises(NoCut, disk.cut, (1,))
        self.assertRaises(NoCut, disk.cut, ())
        disk.cut((0,))
        self.assertEqual(told(disk), ([B], 1))

    def test_no_cut(self):
        for thing in [(), (1,), (1, 1, 1), (4, 2), (3, 3), (-1, 0), (0, -1), (True, 0), (0, False), (None, 0), ("1", 0),
                      (10 ** 19, 0), [3, 2], [0, 0], ((3, 2),), {0: 3, 1: 2}, ((3,), (2,)), ([3], 2), 3, None, "32",
                      b"\x03\x02", range(2), *odd_things()]:
            with self.subTest(repr(thing)[:60]):
                disk = disk_of((B,), (A, C))
                self.assertRaises(NoCut, disk.cut, thing)
                self.assertEqual(told(disk), ([B, A, C], 1))

    def test_no_cut_where_none_waits(self):
        for thing in odd_things():
            if thing != ():
                self.assertRaises(NoCut, disk_of((A,), ()).cut, thing)


class Drops(unittest.TestCase):
    def test_blocks_from_the_number_on(self):
        for number in range(5):
            disk = disk_of((A, B), (C, A))
            self.assertIsNone(disk.drop(number))
            self.assertEqual(told(disk), ([A, B, C, A][:number], min(number, 2)))
            self.assertEqual(disk.write(B), number)
            self.assertEqual(disk.sync(), max(number - 2, 0) + 1)

    def test_up_to_how_many_there_are(self):
        for many in range(4):
            disk = disk_of((A,) * many, ())
            self.assertRaises(NoNumber, disk.drop, many + 1)
            self.assertEqual(disk.synced(), many)
            self.assertIsNone(disk.drop(many))

    def test_no_number(self):
        for thing in [-1, 4, 10 ** 19, True, False, None, "1", (1,), [1], b"\x01", {1: 1}, *odd_things()]:
            with self.subTest(repr(thing)[:60]):
                disk = disk_of((A,), (B, C))
                self.assertRaises(NoNumber, disk.drop, thing)
                self.assertEqual(told(disk), ([A, B, C], 1))


class Drawn(unittest.TestCase):
    def led(self, draw, disk, plain):
        deed = draw.below(10)
        if deed < 4:
            row = drawn_bytes(draw, draw.below(6))
            self.assertEqual(disk.write(row), plain.write(row))
        elif deed == 4:
            self.assertEqual(disk.sync(), plain.sync())
        elif deed < 7:
            waiting = plain.blocks()[plain.synced():]
            kept = [draw.one_of((0, len(row), draw.below(len(row) + 1), draw.below(len(row) + 2))) for row in waiting]
            kept = kept + [0] if draw.below(9) == 0 else kept
            self.done(plain.cut(kept), NoCut, disk.cut, tuple(kept))
        elif deed == 7:
            number = draw.below(len(plain.list) + 2)
            self.done(plain.drop(number), NoNumber, disk.drop, number)
        elif deed == 8:
            return disk.copy(), plain.copy()
        return disk, plain

    def done(self, could, error, call, passed):
        if could:
            self.assertIsNone(call(passed))
        else:
            self.assertRaises(error, call, passed)

    def test_deeds_against_a_plain_list(self):
        for seed in range(150):
            draw = Draw(seed)
            disk, plain = Disk(), PlainDisk()
            for _ in range(60):
                disk, plain = self.led(draw, disk, plain)
                self.assertEqual(told(disk), (plain.blocks(), plain.synced()))


class Kept(unittest.TestCase):
    def test_as_far_as_each_is_sealed(self):
        rows = [sealed(parcel) for parcel in ("a", (1, None), True)]
        self.assertEqual(kept_parcels(rows), ["a", (1, None), True])
        self.assertEqual(kept_parcels(tuple(rows)), ["a", (1, None), True])
        self.assertEqual(kept_parcels([rows[0], (), rows[2]]), ["a"])
        self.assertEqual(kept_parcels([rows[0][:-1], rows[1]]), [])
        self.assertEqual(kept_parcels([rows[0], rows[1], rows[2] + (0,)]), ["a", (1, None)])
        self.assertEqual(kept_parcels([]), [])
        self.assertEqual(kept_parcels(()), [])
        self.assertEqual(kept_parcels([sealed(()), sealed(None)]), [(), None])

    def test_of_a_disk_that_is_cut(self):
        for kept in range(len(sealed("b")) + 1):
            disk = disk_of((sealed("a"),), (sealed("b"), sealed("c")))
            disk.cut((kept, len(sealed("c"))))
            self.assertEqual(kept_parcels(disk.blocks()), ["a", "b", "c"] if kept == len(sealed("b")) else ["a"])

    def test_drawn_blocks(self):
        for seed in range(200):
            draw = Draw(seed)
            parcels = [drawn_parcel(draw, 2) for _ in range(draw.below(6))]
            rows = [spoiled_row(draw, sealed(parcel)) if draw.below(5) == 0 else sealed(parcel) for parcel in parcels]
            plain = []
            for row in rows:
                parcel, wrong = plain_read(row[:-4])
                if wrong is not None or plain_sealed(parcel) != row:
                    break
                plain.append(parcel)
            self.assertEqual(kept_parcels(draw.one_of((list, tuple))(rows)), plain)

    def test_no_blocks(self):
        good = sealed(1)
        for thing in [None, 1, "a", b"\x01", {}, {0: good}, (1, 2), [1], good, [good, None], [list(good)], (good, "a"),
                      [good, (256,)], [good, (True,)], [(), [()]], [(-1,)], [(), good, 5], range(3), [[good]],
                      *odd_things()]:
            if thing not in ((), [], ((),)):
                with self.subTest(repr(thing)[:60]):
                    self.assertRaises(NoBlocks, kept_parcels, thing)

    def test_what_is_passed_stays(self):
        rows = [sealed(1), (), sealed(2)]
        found = kept_parcels(rows)
        found.append(5)
        self.assertEqual(rows, [sealed(1), (), sealed(2)])
        self.assertEqual(kept_parcels(rows), [1])


if __name__ == "__main__":
    unittest.main()

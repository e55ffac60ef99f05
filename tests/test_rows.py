"""[7.1] and [7.2]: parcels, rows, marks and seals."""
import unittest
from itertools import product

from moststream.errors import BadRow, NoParcel, NoRow
from moststream.rows import is_parcel, is_row, mark, parcel_of, row_of, sealed, unsealed
from tests.drawn import Draw, nested, odd_things
from tests.drawn_parcels import INTEGERS, drawn_bytes, drawn_parcel, spoiled_row
from tests.plain_rows import SIGNS, plain_mark, plain_read, plain_row, plain_sealed

PARCELS = [None, True, False, *INTEGERS, *SIGNS, "a" * 20, "  ", "~" * 20, "push", (), ((),), (None,), (True, 1, "1"),
           (0, False, (1, ((), "x"), -1)), tuple(range(127)), tuple(range(128)), (0,) * 300,
           nested(20, tuple), nested(20, lambda inner: (*inner, "x", 300))]
NO_PARCELS = ["", "a" * 21, "a" * 20000, chr(37), "a" + chr(37), "\n", "a\n", "\x1f", "\x7f", "\x80", "\u20ac", b"a",
              [], [1], {}, {1: 2}, ([],), (1, [2]), (b"a",), ("",), ("a" * 21,), nested(21, tuple), nested(40, tuple),
              nested(21, lambda inner: (*inner, 1)), range(3), (1, (2, {})), object(), ((), (None, ("a", b"")))]
NO_ROWS = [None, 1, "", "abc", b"", b"\x00", [], [0], [1, 2], (256,), (-1,), (0, 256), (True,), (1, False), (None,),
           ((),), ((0,),), ("0",), (b"0",), {}, {0: 0}, (10 ** 19,), range(3), bytearray(b"\x01")]


def judged(row):
    """What plain_read tells, asked of the program."""
    try:
        return parcel_of(row), None
    except BadRow as error:
        return None, error.place


def same(one, other):
    """Whether two parcels are the same: 1 and True are not."""
    if type(one) is not type(other):
        return False
    if type(one) is tuple:
        return len(one) == len(other) and all(same(a, b) for a, b in zip(one, other))
    return one == other


class Rows(unittest.TestCase):
    def test_by_the_words_of_the_point(self):
        rows = {None: (0,), -1: (4, 0), 2: (3, 2), 127: (3, 127), 128: (3, 128, 1), 300: (3, 172, 2), -2: (4, 1),
                -129: (4, 128, 1), -128: (4, 127), 16384: (3, 128, 128, 1), "a": (5, 1, 97), " ~": (5, 2, 32, 126),
                (): (6, 0), ((), ()): (6, 2, 6, 0, 6, 0), (None, "b"): (6, 2, 0, 5, 1, 98)}
        for parcel, row in rows.items():
            self.assertEqual(row_of(parcel), row)
        self.assertEqual([row_of(parcel) for parcel in (False, True, 0, 1)], [(1,), (2,), (3, 0), (3, 1)])
        self.assertEqual(row_of((True, "a", 300)), (6, 3, 2, 5, 1, 97, 3, 172, 2))
        self.assertEqual(row_of((0,) * 128), (6, 128, 1) + (3, 0) * 128)

    def test_are_of_bytes_and_read_back(self):
        for parcel in PARCELS:
            with self.subTest(repr(parcel)[:60]):
                row = row_of(parcel)
                self.assertTrue(type(row) is tuple and is_row(row))
                self.assertEqual(row, plain_row(parcel))
                self.assertTrue(same(parcel_of(row), parcel))

    def test_drawn_parcels(self):
        draw = Draw(1)
        for _ in range(2000):
            parcel = drawn_parcel(draw)
            row = row_of(parcel)
            self.assertEqual(row, plain_row(parcel))
            self.assertTrue(same(parcel_of(row), parcel))

    def test_unlike_parcels_have_unlike_rows(self):
        rows = [row_of(parcel) for parcel in PARCELS]
        self.assertEqual(len(rows), len(set(rows)))

    def test_large_ones(self):
        for parcel in (10 ** 400, -10 ** 400, ("a" * 20,) * 3000, tuple(range(6000))):
            self.assertTrue(same(parcel_of(row_of(parcel)), parcel))

    def test_what_is_no_parcel(self):
        for thing in NO_PARCELS:
            with self.subTest(repr(thing)[:60]):
                self.assertRaises(NoParcel, row_of, thing)
                self.assertRaises(NoParcel, row_of, (1, thing))
                self.assertRaises(NoParcel, sealed, thing)
                self.assertIs(is_parcel(thing), False)
                self.assertIs(is_parcel(((thing,),)), False)

    def test_is_parcel(self):
        for parcel in PARCELS:
            self.assertIs(is_parcel(parcel), True)
        self.assertIs(is_parcel((nested(19, tuple), "x")), True)
        self.assertIs(is_parcel((nested(20, tuple),)), False)
        self.assertIs(is_parcel(("x", nested(20, tuple))), False)
        for thing in odd_things():
            self.assertIn(is_parcel(thing), (True, False))


class Places(unittest.TestCase):
    def bad(self, row, place):
        with self.subTest(row):
            self.assertEqual(judged(row), (None, place))
            self.assertEqual(plain_read(row), (None, place))

    def test_sorts(self):
        for sort in (7, 8, 127, 128, 255):
            self.bad((sort,), 0)
            self.bad((sort, 1, 2), 0)
            self.bad((6, 2, 0, sort, 0), 3)
            self.bad((0, sort), 1)

    def test_something_lacks(self):
        for row in ((), (3,), (4,), (5,), (6,), (5, 1), (5, 20) + (97,) * 19, (6, 1), (6, 2, 0), (6, 1, 6),
                    (6, 2, 6, 1, 6, 0), (6, 255, 255, 3, 0), (6, 2, 3, 5, 5), (6, 1) * 20):
            self.bad(row, len(row))

    def test_something_is_behind(self):
        self.bad((0, 0), 1)
        self.bad((0, 0, 255), 1)
        self.bad((3, 5, 5), 2)
        self.bad((3, 128, 1, 1), 3)
        self.bad((6, 0, 6, 0), 2)
        self.bad((6, 1, 0, 7, 7), 3)
        self.bad((5, 1, 97, 37), 3)
        self.bad((5, 1, 97, 98), 3)

    def test_wholes(self):
        for sort in (3, 4, 5, 6):
            self.bad((sort, 128), 1)
            self.bad((sort, 255, 255, 255), 1)
            self.bad((sort, 128, 0), 1)
            self.bad((sort, 129, 0, 97), 1)
            self.bad((sort, 129, 128, 0, 5), 1)
            self.bad((6, 2, 2, sort, 200), 4)
        for sort in (3, 4):
            self.assertEqual(row_of(parcel_of((sort, 0))), (sort, 0))
            self.bad((sort, 0, 0), 2)
        self.bad((6, 128, 0), 1)
        self.bad((6, 0, 0), 2)

    def test_lengths_of_strings(self):
        for whole in ((0,), (21,), (127,), (128, 1), (255, 255, 3)):
            self.bad((5, *whole), 1)
            self.bad((5, *whole) + (97,) * 21, 1)
            self.bad((6, 1, 5, *whole) + (97,) * 21, 3)
        self.assertEqual(parcel_of((5, 20) + (97,) * 20), "a" * 20)
        self.assertEqual(parcel_of((5, 1, 97)), "a")

    def test_signs(self):
        for sign in range(256):
            if sign == 37 or sign < 32 or sign > 126:
                self.bad((5, 1, sign), 2)
                self.bad((5, 3, 97, sign, sign), 3)
                self.bad((5, 3, 97, 98, sign), 4)
                self.bad((5, 9, 97, sign), 3)
            else:
                self.assertEqual(parcel_of((5, 2, 97, sign)), "a" + chr(sign))

    def test_depth(self):
        for deep in (20, 21, 22, 40):
            row = (6, 1) * (deep - 1) + (6, 0)
            if deep == 20:
                self.assertEqual(parcel_of(row), nested(20, tuple))
            else:
                self.bad(row, 40)
                self.bad(row[:41], 40)
        self.bad((6, 1) * 19 + (6, 2, 0, 6, 0), 41)
        self.assertEqual(judged((6, 1) * 19 + (6, 2, 0, 3, 0))[1], None)

    def test_more_items_than_can_be_counted(self):
        row = (6,) + (255,) * 30 + (1, 0, 0)
        self.bad(row, len(row))
        self.bad(row + (7,), len(row))

    def test_all_short_rows(self):
        numbers = (0, 1, 2, 3, 4, 5, 6, 7, 37, 97, 127, 128, 255)
        for many in range(5):
            for row in product(numbers, repeat=many):
                parcel, place = judged(row)
                self.assertEqual((parcel, place), plain_read(row))
                if place is None:
                    self.assertEqual(row_of(parcel), row)

    def test_spoiled_rows(self):
        draw = Draw(2)
        bad = 0
        for _ in range(4000):
            row = spoiled_row(draw, row_of(drawn_parcel(draw)))
            parcel, place = judged(row)
            plain = plain_read(row)
            self.assertTrue(same((parcel, place), plain), row)
            if place is None:
                self.assertEqual(row_of(parcel), row)
            else:
                bad += 1
                self.assertTrue(0 <= place <= len(row))
        self.assertGreater(bad, 1500)

    def test_drawn_bytes(self):
        draw = Draw(3)
        for _ in range(4000):
            row = drawn_bytes(draw, draw.below(9))
            self.assertTrue(same(judged(row), plain_read(row)), row)

    def test_no_true_beginning_of_a_row_is_one(self):
        draw = Draw(4)
        for _ in range(300):
            row = row_of(drawn_parcel(draw))
            for many in range(len(row)):
                parcel, place = judged(row[:many])
                self.assertIsNotNone(place, row[:many])

    def test_no_row(self):
        for thing in [*NO_ROWS, *odd_things()]:
            if not (type(thing) is tuple and all(type(byte) is int and 0 <= byte < 256 for byte in thing)):
                with self.subTest(repr(thing)[:60]):
                    self.assertRaises(NoRow, parcel_of, thing)
                    self.assertRaises(NoRow, mark, thing)
                    self.assertEqual(unsealed(thing), ())
                    self.assertIs(is_row(thing), False)


class Seals(unittest.TestCase):
    def test_marks_by_the_words_of_the_point(self):
        self.assertEqual(mark(()), 1)
        self.assertEqual(mark((0,)), 1000004)
        self.assertEqual(mark((255,)), 1000003 + 256)
        self.assertEqual(mark((1, 2)), ((1000003 + 2) * 1000003 + 3) % (2 ** 61 - 1))

    def test_drawn_marks(self):
        draw = Draw(5)
        for many in (0, 1, 2, 3, 4, 5, 9, 40, 300):
            for _ in range(20):
                row = drawn_bytes(draw, many)
                self.assertEqual(mark(row), plain_mark(row))
                self.assertTrue(0 <= mark(row) < 2 ** 61 - 1)

    def test_seals(self):
        for parcel in PARCELS:
            row = sealed(parcel)
            self.assertEqual(row, plain_sealed(parcel))
            self.assertEqual(row[:-4], row_of(parcel))
            self.assertEqual(sum(byte << 8 * at for at, byte in enumerate(row[-4:])), mark(row[:-4]) % 2 ** 32)
            told = unsealed(row)
            self.assertTrue(type(told) is tuple and same(told, (parcel,)))

    def test_what_is_sealed_of_nothing(self):
        draw = Draw(6)
        for _ in range(1500):
            parcel = drawn_parcel(draw)
            row = spoiled_row(draw, sealed(parcel))
            told = unsealed(row)
            if row == sealed(parcel):
                self.assertTrue(same(told, (parcel,)))
            else:
                self.assertEqual(told, ())

    def test_a_right_seal_of_no_parcel(self):
        for row in ((), (7,), (0, 0), (3,), (5, 0), (3, 128, 0), (6, 1), (6, 1) * 20 + (6, 0)):
            seal = tuple((plain_mark(row) % 2 ** 32).to_bytes(4, "little"))
            self.assertEqual(unsealed(row + seal), ())

    def test_other_seals(self):
        row = sealed(("x", 1))
        for at in range(len(row)):
            for byte in range(256):
                told = unsealed(row[:at] + (byte,) + row[at + 1:])
                self.assertEqual(told, (("x", 1),) if byte == row[at] else ())
        self.assertEqual(unsealed(row[:-4] + row[:-5:-1]), ())
        for many in range(len(row)):
            self.assertEqual(unsealed(row[:many]), ())
        self.assertEqual(unsealed(list(row)), ())

    def test_any_value_may_be_unsealed(self):
        for thing in odd_things() + NO_ROWS + NO_PARCELS:
            self.assertEqual(unsealed(thing), ())


if __name__ == "__main__":
    unittest.main()

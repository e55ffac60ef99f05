"""[8.2]: saved houses, their disks, and what comes of cuts, held against plain accounts of the point."""
import unittest

from moststream.disks import Disk
from moststream.errors import NoDeed, NoDisk, NoHouse, OtherHouse, StreamError
from moststream.posts import Post
from moststream.rows import mark, sealed, unsealed
from moststream.savings import SavedHouse
from moststream.texts import web_text
from moststream.webs import Web
from tests.drawn import Draw, no_houses, odd_things
from tests.drawn_parcels import drawn_bytes, drawn_parcel
from tests.drawn_posts import Traffic, spoiled_letter
from tests.plain_nets import PlainSaved, plain_first
from tests.plain_rows import PlainDisk
from tests.test_disks import disk_of, told
from tests.test_posts import BAR, WEB, letter_of, rises

OTHER_WEB = Web(3, ((0, 1, 3, 0), (1, 2, 2, 1)), 0, 2)
START = sealed(("deed", ("start",)))


def first_of(web, number):
    signs = tuple(ord(sign) for sign in web_text(web))
    return sealed(("house", mark(signs), number))


def heard_block(row):
    return sealed(("deed", ("hear", row)))


def pour():
    """The letter with the spring's pour."""
    post = Post(WEB, 0)
    post.deed(("start",))
    return post.letter(1)


class Made(unittest.TestCase):
    def test_over_an_empty_disk(self):
        for web in (WEB, BAR, OTHER_WEB):
            for number in range(web.many):
                disk = Disk()
                house = SavedHouse(web, number, disk)
                self.assertEqual(told(disk), ([first_of(web, number)], 1))
                self.assertEqual(disk.blocks(), [plain_first(web, number)])
                self.assertEqual((house.past(), house.state()), (Post(web, number).past(), Post(web, number).state()))

    def test_is_a_post(self):
        self.assertEqual(SavedHouse.__bases__, (Post,))
        house = SavedHouse(WEB, 0, Disk())
        house.deed(("start",))
        copied = house.copy()
        self.assertIs(type(copied), Post)
        self.assertEqual(copied.past(), house.past())
        copied.deed(("hear", letter_of(1, 0, 1, ())))
        self.assertNotEqual(copied.past(), house.past())

    def test_errors_in_their_order(self):
        other = disk_of((first_of(WEB, 0),), ())
        for thing in no_houses(3):
            if not (type(thing) is int and 0 <= thing < 3):
                for disk in (Disk(), None, other):
                    self.assertRaises(NoHouse, SavedHouse, WEB, thing, disk)
        for thing in odd_things() + [[()], Post(WEB, 1), SavedHouse(WEB, 1, Disk())]:
            if not isinstance(thing, Disk):
                with self.subTest(repr(thing)[:60]):
                    self.assertRaises(NoDisk, SavedHouse, WEB, 1, thing)
        self.assertRaises(OtherHouse, SavedHouse, WEB, 1, other)

    def test_another_house(self):
        own = mark(tuple(ord(sign) for sign in web_text(WEB)))
        firsts = [first_of(WEB, 0), first_of(WEB, 2), first_of(OTHER_WEB, 1), first_of(BAR, 1),
                  *[sealed(("house", *parts)) for parts in ((own, True), (own, None), (own + 1, 1), (None, 1), (1, own),
                                                            ((own,), 1), (own, (1,)), ((), ()), ("house", "house"))]]
        for first in firsts:
            for firm, waiting in (((first,), ()), ((), (first, START)), ((first, START), ((1,),))):
                disk = disk_of(firm, waiting)
                self.assertRaises(OtherHouse, SavedHouse, WEB, 1, disk)
                self.assertEqual(told(disk), ([*firm, *waiting], len(firm)))

    def test_what_is_of_no_house_is_dropped(self):
        own = mark(tuple(ord(sign) for sign in web_text(WEB)))
        good = first_of(WEB, 1)
        for row in [(), (1, 2), good[:-1], good + (0,), good[:-1] + (good[-1] ^ 1,), sealed("house"), sealed(None),
                    sealed(("house", own)), sealed(("house", own, 1, 1)), sealed(("House", own, 1)), START,
                    sealed((("house",), own, 1)), sealed((own, "house", 1)), sealed(("past", Post(WEB, 1).past()))]:
            for disk in (disk_of((row,), ()), disk_of((), (row,)), disk_of((row, good, heard_block(pour())), ((5,),))):
                house = SavedHouse(WEB, 1, disk)
                self.assertEqual(told(disk), ([good], 1))
                self.assertEqual(house.past(), Post(WEB, 1).past())


class ReadBack(unittest.TestCase):
    def setUp(self):
        """Deeds of house 1 that change it, and its past behind each."""
        self.first = first_of(WEB, 1)
        self.rows = [pour(), letter_of(2, 1, 1, ()), letter_of(2, 1, 2, ((0, ("yes",)),)),
                     letter_of(0, 1, 1, rises((5,))), letter_of(0, 1, 2, ())]
        post = Post(WEB, 1)
        self.pasts = [post.past()]
        for row in self.rows:
            self.assertEqual(post.deed(("hear", row)), "new")
            self.pasts.append(post.past())
        self.notes = [heard_block(row) for row in self.rows]

    def made(self, blocks, kept, past):
        """Makes a house of a disk with these blocks behind the first, of which so many are kept."""
        blocks = [self.first, *blocks]
        for firm in (0, 1, len(blocks) - 1, len(blocks)):
            disk = disk_of(blocks[:firm], blocks[firm:])
            house = SavedHouse(WEB, 1, disk)
            self.assertEqual(house.past(), past)
            self.assertEqual(told(disk), (blocks[:kept + 1], kept + 1))

    def test_deeds(self):
        for many in range(len(self.rows) + 1):
            self.made(self.notes[:many], many, self.pasts[many])
        post = Post(WEB, 1)
        self.assertEqual([post.deed(("hear", self.rows[k])) for k in (0, 3, 4)], ["new", "new", "none"])
        self.made([self.notes[k] for k in (0, 3, 4)], 2, post.past())

    def test_the_last_past(self):
        keeps = [sealed(("past", past)) for past in self.pasts]
        self.made([keeps[3]], 1, self.pasts[3])
        self.made([keeps[3], *self.notes[3:]], 3, self.pasts[5])
        self.made([keeps[3], keeps[3]], 2, self.pasts[3])
        self.made([*self.notes, keeps[0], self.notes[0]], 7, self.pasts[1])
        self.made([self.notes[0], keeps[4], keeps[2], self.notes[2]], 4, self.pasts[3])

    def test_the_first_that_is_none_and_all_behind_it_are_dropped(self):
        past = sealed(("past", self.pasts[2]))
        none = [(), (1, 2), past[:-1], past + (0,), sealed(None), sealed("past"), sealed(("past",)), sealed("deed"),
                sealed(("deed",)), sealed(("past", self.pasts[2], 1)), sealed(("Past", self.pasts[2])),
                sealed((1, self.pasts[2])), sealed((("past",), self.pasts[2])), self.first,
                sealed(("past", Post(WEB, 2).past())), sealed(("past", None)), sealed(("past", self.pasts[2][:2])),
                sealed(("past", (*self.pasts[2][:2], ((True, ()), (0, ()))))), START, sealed(("deed", None)),
                sealed(("deed", "start")), sealed(("deed", ("keep",))), sealed(("deed", ("hear", None))),
                sealed(("deed", ("hear", ()))), sealed(("deed", ("start",), 1)), sealed(("deed", ("hear",))),
                heard_block(letter_of(0, 1, 0, ())), heard_block(self.rows[0]), heard_block(self.rows[0][:-1]),
                heard_block(letter_of(0, 1, 9, ())), heard_block(letter_of(0, 1, 0, rises((1, 2)))[1:])]
        for block in none:
            with self.subTest(repr(block)[:60]):
                self.made([self.notes[0], block], 1, self.pasts[1])
                self.made([self.notes[0], block, self.notes[1], past], 1, self.pasts[1])
                self.made([past, block, past], 1, self.pasts[2])

    def test_of_the_spring(self):
        first = first_of(WEB, 0)
        post = Post(WEB, 0)
        post.deed(("start",))
        heard = heard_block(letter_of(1, 0, 1, ()))
        for blocks, kept in (([START], 1), ([START, START], 1), ([START, START, heard], 1)):
            disk = disk_of([first, *blocks], ())
            self.assertEqual(SavedHouse(WEB, 0, disk).past(), post.past())
            self.assertEqual(told(disk), ([first, *blocks[:kept]], kept + 1))

    def test_goes_on_with_the_disk_that_was_passed(self):
        disk = disk_of([self.first, self.notes[0], (9,)], ())
        house = SavedHouse(WEB, 1, disk)
        self.assertEqual(house.deed(("hear", self.rows[1])), "new")
        self.assertEqual(told(disk), ([self.first, *self.notes[:2]], 2))


class Deeds(unittest.TestCase):
    def test_each_deed_that_changes_the_past_is_noted(self):
        disk = Disk()
        house = SavedHouse(WEB, 0, disk)
        self.assertIsNone(house.deed(("start",)))
        self.assertEqual(told(disk), ([first_of(WEB, 0), START], 1))
        self.assertRaises(NoDeed, house.deed, ("start",))
        self.assertEqual(house.deed(("hear", letter_of(1, 0, 0, ()))), "old")
        self.assertEqual(house.deed(("hear", letter_of(1, 0, 2, ()))), "none")
        self.assertEqual(house.deed(("hear", None)), "none")
        self.assertEqual(told(disk), ([first_of(WEB, 0), START], 1))
        row = letter_of(1, 0, 1, rises((4,)))
        self.assertEqual(house.deed(("hear", row)), "new")
        self.assertEqual(told(disk), ([first_of(WEB, 0), START, heard_block(row)], 1))
        self.assertEqual(house.deed(("hear", row)), "old")
        self.assertEqual(len(disk.blocks()), 3)

    def test_no_deeds(self):
        for thing in odd_things() + [("start", 0), ("hear",), ("keep",), ["start"]]:
            disk = Disk()
            house = SavedHouse(WEB, 0, disk)
            self.assertRaises(NoDeed, house.deed, thing)
            self.assertEqual(house.deed(("hear", thing)), "none")
            self.assertEqual(told(disk), ([first_of(WEB, 0)], 1))
            self.assertEqual(house.past(), Post(WEB, 0).past())
        self.assertRaises(NoDeed, SavedHouse(WEB, 1, Disk()).deed, ("start",))

    def test_ahead_of_each_letter_the_disk_is_synced(self):
        disk = Disk()
        house = SavedHouse(WEB, 0, disk)
        house.deed(("start",))
        for thing in [0, 2, *no_houses(3)]:
            if not (type(thing) is int and thing == 1):
                self.assertRaises(NoHouse, house.letter, thing)
        self.assertEqual(disk.synced(), 1)
        self.assertEqual(house.letter(1), pour())
        self.assertEqual(disk.synced(), 2)
        self.assertEqual(len(disk.blocks()), 2)

    def test_keep(self):
        disk = Disk()
        house = SavedHouse(WEB, 0, disk)
        self.assertEqual(house.keep(), 2)
        house.deed(("start",))
        past = house.past()
        self.assertEqual(house.keep(), 4)
        self.assertEqual(house.past(), past)
        self.assertEqual(told(disk), ([first_of(WEB, 0), sealed(("past", Post(WEB, 0).past())), START,
                                       sealed(("past", past))], 4))
        self.assertEqual(SavedHouse(WEB, 0, disk).past(), past)

    def test_moved(self):
        old, new = Disk(), Disk()
        house = SavedHouse(WEB, 0, old)
        house.deed(("start",))
        before = told(old)
        other = house.moved(new)
        self.assertIs(type(other), SavedHouse)
        self.assertEqual(other.past(), house.past())
        self.assertEqual(told(new), ([first_of(WEB, 0), sealed(("past", house.past()))], 2))
        self.assertEqual(told(old), before)
        self.assertEqual(other.deed(("hear", letter_of(1, 0, 1, ()))), "new")
        self.assertEqual((len(new.blocks()), told(old)), (3, before))
        self.assertEqual(SavedHouse(WEB, 0, new).past(), other.past())

    def test_moved_to_no_disk(self):
        own = Disk()
        house = SavedHouse(WEB, 0, own)
        house.deed(("start",))
        past, before = house.past(), told(own)
        full = disk_of(((),), ())
        for thing in odd_things() + [full, disk_of((), (START,)), own, [Disk()], house]:
            if not (isinstance(thing, Disk) and not thing.blocks()):
                with self.subTest(repr(thing)[:60]):
                    self.assertRaises(NoDisk, house.moved, thing)
        self.assertEqual((house.past(), told(own), told(full)), (past, before, ([()], 1)))
        emptied = disk_of((START,), ())
        emptied.drop(0)
        self.assertEqual(house.moved(emptied).past(), past)


class Cut(unittest.TestCase):
    def test_at_each_byte(self):
        """A deed is there only if all of its bytes are, and so are all blocks ahead of it."""
        row = letter_of(1, 0, 1, rises((4,)))
        for first in range(len(START) + 1):
            for second in (0, len(heard_block(row)) - 1, len(heard_block(row))):
                disk = Disk()
                house = SavedHouse(WEB, 0, disk)
                pasts = [house.past()]
                for deed in (("start",), ("hear", row)):
                    house.deed(deed)
                    pasts.append(house.past())
                disk.cut((first, second))
                good = (first == len(START)) * (1 + (second == len(heard_block(row))))
                self.assertEqual(SavedHouse(WEB, 0, disk).past(), pasts[good])
                self.assertEqual(told(disk), ([first_of(WEB, 0), START, heard_block(row)][:good + 1], good + 1))

    def test_what_was_let_out_in_a_letter_stays(self):
        disk = Disk()
        house = SavedHouse(WEB, 0, disk)
        house.deed(("start",))
        house.letter(1)
        past = house.past()
        house.deed(("hear", letter_of(1, 0, 1, rises((4,)))))
        disk.cut((0,))
        self.assertEqual(SavedHouse(WEB, 0, disk).past(), past)


class Drawn(unittest.TestCase):
    """Saved houses of drawn webs, led beside plain ones through letters, cuts and moves to other disks."""

    def setUp(self):
        self.done = dict.fromkeys(("new", "cut", "lost", "keep", "moved"), 0)

    def test_against_the_plain_account(self):
        for seed in range(40):
            draw = Draw(seed)
            traffic = Traffic(draw)
            web = traffic.web
            self.disks = [Disk() for _ in range(web.many)]
            self.plain = [PlainSaved(web, number, PlainDisk()) for number in range(web.many)]
            traffic.posts = [SavedHouse(web, number, disk) for number, disk in enumerate(self.disks)]
            for _ in range(200):
                number = self.lead(draw, traffic)
                plain = self.plain[number]
                self.assertEqual(traffic.posts[number].past(), plain.post.past())
                self.assertEqual(told(self.disks[number]), (plain.disk.blocks(), plain.disk.synced()))
        self.assertGreater(min(self.done.values()), 40, self.done)

    def lead(self, draw, traffic):
        """Does a drawn deed; returns by which house."""
        deed = draw.below(14)
        number = draw.below(traffic.web.many)
        house, plain = traffic.posts[number], self.plain[number]
        if deed < 4 and plain.post.near:
            to = draw.one_of(plain.post.near)
            row = house.letter(to)
            self.assertEqual(row, plain.letter(to))
            traffic.bag.append((to, row))
        elif deed < 9 and traffic.bag:
            number, row = draw.one_of(traffic.bag[-9:])
            row = spoiled_letter(draw, row) if draw.below(9) == 0 else row
            due = self.plain[number].hear(row)
            self.assertEqual(traffic.posts[number].deed(("hear", row)), due)
            self.done["new"] += due == "new"
        elif deed == 9:
            number = traffic.web.spring
            if self.plain[number].post.can_start():
                self.plain[number].start()
                traffic.posts[number].deed(("start",))
        elif deed == 10:
            self.assertEqual(house.keep(), plain.keep())
            self.done["keep"] += 1
        elif deed < 13:
            waiting = [k for k, saved in enumerate(self.plain) if saved.disk.synced() < len(saved.disk.blocks())]
            number = draw.one_of(waiting) if waiting else number
            self.cut(draw, traffic, number)
        else:
            self.disks[number] = Disk()
            traffic.posts[number] = house.moved(self.disks[number])
            self.plain[number].disk = PlainDisk()
            self.plain[number].disk.write(plain_first(traffic.web, number))
            self.plain[number].keep()
            self.done["moved"] += 1
        return number

    def cut(self, draw, traffic, number):
        """Cuts the disk, perhaps writes blocks that are none behind, and makes the house anew."""
        disk, plain = self.disks[number], self.plain[number].disk
        waiting = plain.blocks()[plain.synced():]
        kept = tuple(draw.one_of((0, len(row), len(row), draw.below(len(row) + 1))) for row in waiting)
        self.done["cut"] += 1
        self.done["lost"] += kept != tuple(len(row) for row in waiting)
        disk.cut(kept)
        self.assertTrue(plain.cut(kept))
        for _ in range(draw.below(3)):
            row = draw.one_of((drawn_bytes(draw, draw.below(5)), sealed(drawn_parcel(draw, 2)), START,
                               draw.one_of(plain.blocks())))
            disk.write(row)
            plain.write(row)
        traffic.posts[number] = SavedHouse(traffic.web, number, disk)
        self.plain[number] = PlainSaved(traffic.web, number, plain)

    def test_blocks_of_nothing_at_the_front(self):
        for seed in range(150):
            draw = Draw(seed)
            rows = [draw.one_of((drawn_bytes(draw, 4), sealed(drawn_parcel(draw, 1)), START, first_of(WEB, 0),
                                 first_of(WEB, 1), first_of(WEB, 0), first_of(WEB, 0)[:9])) for _ in range(3)]
            disk = disk_of(rows, ())
            seals = unsealed(rows[0])
            try:
                house = SavedHouse(WEB, 0, disk)
            except StreamError as error:
                self.assertIs(type(error), OtherHouse)
                self.assertEqual((seals[0][0], rows[0] != first_of(WEB, 0)), ("house", True))
                self.assertEqual(told(disk), (rows, 3))
                continue
            self.assertEqual(disk.blocks()[0], first_of(WEB, 0))
            good = rows[0] == first_of(WEB, 0) and rows[1] == START
            self.assertEqual(house.state()[0], "awake" if good else "asleep")
            self.assertEqual(told(disk), ([first_of(WEB, 0), START][:1 + good], 1 + good))


if __name__ == "__main__":
    unittest.main()

"""[1.2] and [1.3]: streams, worth, room, the greatest, sides and papers."""
import unittest

from moststream.errors import NoHouse, NoSide, NoStream, NoTie
from moststream.streams import is_paper, is_stream, most, room, side_of, side_worth, worth
from moststream.webs import Web
from tests.drawn import SHAPES, Draw, drawn_stream, drawn_web, no_houses, odd_things, part_of
from tests.plain import all_sides, all_streams, gains, goes, keeps, least_side, tie_of, worth_of_side

ROW = Web(3, ((0, 1, 3, 0), (1, 2, 2, 0)), 0, 2)
PLAIN = Web(2, ((0, 1, 5, 3),), 0, 1)
RING = Web(4, ((0, 1, 4, 4), (0, 2, 4, 4), (1, 2, 4, 4), (1, 3, 4, 4), (2, 3, 4, 4)), 0, 3)
NO_TIES = Web(3, (), 0, 2)


def all_lots(many):
    for bits in range(2 ** many):
        yield tuple(house for house in range(many) if bits >> house & 1)


class Streams(unittest.TestCase):
    def test_from_back_to_there(self):
        for units in range(-8, 9):
            self.assertIs(is_stream(PLAIN, (units,)), -3 <= units <= 5)

    def test_as_many_come_as_go(self):
        self.assertIs(is_stream(ROW, (2, 2)), True)
        self.assertIs(is_stream(ROW, (0, 0)), True)
        self.assertIs(is_stream(ROW, (3, 2)), False)
        self.assertIs(is_stream(ROW, (1, 2)), False)
        self.assertIs(is_stream(RING, (1, 0, 1, 0, 1)), True)
        self.assertIs(is_stream(RING, (-1, 1, -1, 0, 0)), True)
        self.assertIs(is_stream(RING, (-1, 1, 1, 0, 0)), False)

    def test_spring_and_mouth_need_not_keep(self):
        web = Web(4, ((0, 1, 4, 4), (0, 2, 4, 4), (1, 2, 4, 4), (1, 3, 4, 4), (2, 3, 4, 4)), 1, 2)
        self.assertIs(is_stream(web, (0, 0, 3, 0, 0)), True)
        self.assertIs(is_stream(web, (1, 0, 3, 0, 0)), False)
        self.assertIs(is_stream(web, (0, 0, 3, 1, 0)), False)

    def test_an_integer_for_each_tie(self):
        for thing in ((2,), (2, 2, 2), (), [2, 2], "22", (2, True), (False, 0), (0, False), (0, None), (0, "0"),
                      ((0,), 0), ([0], 0), (0, b"0"), (0, {}), {0: 0, 1: 0}, b"\x00\x00", None, (2, ROW)):
            with self.subTest(repr(thing)):
                self.assertIs(is_stream(ROW, thing), False)

    def test_a_web_without_ties(self):
        self.assertIs(is_stream(NO_TIES, ()), True)
        self.assertIs(is_stream(NO_TIES, []), False)
        self.assertIs(is_stream(NO_TIES, (0,)), False)
        self.assertEqual((worth(NO_TIES, ()), most(NO_TIES), side_of(NO_TIES, ())), (0, 0, (0,)))

    def test_things_of_all_kinds(self):
        for thing in odd_things():
            with self.subTest(repr(thing)[:60]):
                for web in (ROW, RING):
                    self.assertIs(is_stream(web, thing), False)
                    self.assertRaises(NoStream, worth, web, thing)
                    self.assertRaises(NoStream, room, web, thing, None, None)
                    self.assertRaises(NoStream, side_of, web, thing)
                    self.assertRaises(NoStream, is_paper, web, thing, None)
                for at in range(2):
                    self.assertIs(is_stream(ROW, part_of((2, 2), at, thing)), False)

    def test_drawn_streams(self):
        worths = set()
        for seed in range(150):
            draw = Draw(seed)
            web = drawn_web(draw, shape=SHAPES[seed % len(SHAPES)])
            stream = drawn_stream(draw, web)
            self.assertIs(is_stream(web, stream), True)
            total = worth(web, stream)
            self.assertEqual(total, gains(web, stream)[web.mouth])
            self.assertEqual(-total, gains(web, stream)[web.spring])
            worths.add((total > 0) - (total < 0))
            for at in range(len(stream)):
                changed = part_of(stream, at, stream[at] + 1)
                fits = stream[at] + 1 <= web.ties[at][2] and keeps(web, changed)
                self.assertIs(is_stream(web, changed), fits)
        self.assertEqual(worths, {-1, 0, 1})


class Worth(unittest.TestCase):
    def test_above_and_below_none(self):
        self.assertEqual(worth(ROW, (2, 2)), 2)
        self.assertEqual([worth(PLAIN, (units,)) for units in (5, 0, -3)], [5, 0, -3])
        turned = Web(2, ((0, 1, 5, 3),), 1, 0)
        self.assertEqual([worth(turned, (units,)) for units in (5, 0, -3)], [-5, 0, 3])

    def test_rings_add_nothing(self):
        self.assertEqual(worth(RING, (-1, 1, -1, 0, 0)), 0)
        self.assertEqual(worth(RING, (0, 0, 2, -2, 2)), 0)
        self.assertEqual(worth(RING, (1, 0, 3, -2, 3)), 1)

    def test_no_stream(self):
        for stream in ((1, 2), (3, 2), [2, 2], (2, 2, 0), None, (4, 4), (-1, -1)):
            self.assertRaises(NoStream, worth, ROW, stream)


class Room(unittest.TestCase):
    def test_either_way(self):
        self.assertEqual(room(ROW, (2, 2), 0, 1), 1)
        self.assertEqual(room(ROW, (2, 2), 1, 0), 2)
        self.assertEqual(room(ROW, (2, 2), 1, 2), 0)
        self.assertEqual(room(ROW, (2, 2), 2, 1), 2)
        self.assertEqual((room(PLAIN, (-3,), 0, 1), room(PLAIN, (-3,), 1, 0)), (8, 0))

    def test_drawn(self):
        for seed in range(40):
            draw = Draw(seed)
            web = drawn_web(draw)
            stream = drawn_stream(draw, web)
            for one in range(web.many):
                for other in range(web.many):
                    if tie_of(web, one, other):
                        due = tie_of(web, one, other)[0] - goes(web, stream, one, other)
                        self.assertEqual(room(web, stream, one, other), due)
                    else:
                        self.assertRaises(NoTie, room, web, stream, one, other)

    def test_errors_in_their_order(self):
        self.assertRaises(NoStream, room, ROW, (1, 2), None, None)
        for thing in no_houses(3):
            with self.subTest(repr(thing)[:60]):
                self.assertRaises(NoHouse, room, ROW, (2, 2), thing, 2)
                self.assertRaises(NoHouse, room, ROW, (2, 2), 0, thing)
        self.assertRaises(NoTie, room, ROW, (2, 2), 0, 2)
        self.assertRaises(NoTie, room, ROW, (2, 2), 1, 1)


class Most(unittest.TestCase):
    def test_small(self):
        self.assertEqual(most(ROW), 2)
        self.assertEqual(most(Web(3, ROW.ties, 2, 0)), 0)
        self.assertEqual(most(PLAIN), 5)
        self.assertEqual(most(Web(2, PLAIN.ties, 1, 0)), 3)
        self.assertEqual(most(RING), 8)
        self.assertEqual(most(Web(10, (), 3, 4)), 0)
        self.assertEqual(most(Web(2, ((0, 1, 999999, 999999),), 0, 1)), 999999)

    def test_a_short_way_may_have_to_be_undone(self):
        # 0 1 2 7 is the shortest way, but both longer ones together need that 1 and 2 keep apart.
        ties = ((0, 1, 1, 0), (0, 5, 1, 0), (1, 2, 1, 0), (1, 3, 1, 0), (2, 6, 0, 1), (2, 7, 1, 0), (3, 4, 1, 0),
                (4, 7, 1, 0), (5, 6, 1, 0))
        self.assertEqual(most(Web(8, ties, 0, 7)), 2)
        self.assertEqual(most(Web(8, tuple((a, b, 9 * there, 9 * back) for a, b, there, back in ties), 0, 7)), 18)
        self.assertEqual(most(Web(8, ties, 7, 0)), 0)
        crossing = Web(4, ((0, 1, 1, 0), (0, 2, 1, 0), (1, 2, 1, 0), (1, 3, 1, 0), (2, 3, 1, 0)), 0, 3)
        self.assertEqual(most(crossing), 2)

    def test_against_all_streams(self):
        for seed in range(80):
            draw = Draw(seed)
            web = drawn_web(draw, many=2 + seed % 3, most_units=2)
            if len(web.ties) < 6:
                self.assertEqual(most(web), max(worth(web, stream) for stream in all_streams(web)))

    def test_all_streams_of_the_search_are_streams(self):
        for seed in range(20):
            web = drawn_web(Draw(seed), many=3, most_units=2)
            self.assertTrue(all(is_stream(web, stream) for stream in all_streams(web)))

    def test_against_all_sides(self):
        for seed in range(120):
            web = drawn_web(Draw(seed), most_units=(3, 30, 999999)[seed % 3], shape=SHAPES[seed % len(SHAPES)])
            self.assertEqual(most(web), least_side(web))

    def test_ten_houses_all_tied(self):
        web = drawn_web(Draw(5), many=10, most_units=999999, shape="all")
        self.assertEqual(len(web.ties), 45)
        self.assertEqual(most(web), least_side(web))


class Sides(unittest.TestCase):
    def test_small(self):
        self.assertEqual(side_worth(ROW, (0, 1)), 2)
        self.assertEqual(side_worth(ROW, (0,)), 3)
        self.assertEqual(side_worth(Web(3, ROW.ties, 2, 0), (2,)), 0)
        self.assertEqual(side_worth(Web(2, PLAIN.ties, 1, 0), (1,)), 3)
        self.assertEqual(side_worth(NO_TIES, (0, 1)), 0)

    def test_drawn(self):
        for seed in range(40):
            web = drawn_web(Draw(seed))
            for side in all_sides(web):
                self.assertEqual(side_worth(web, side), worth_of_side(web, side))

    def test_what_a_side_is(self):
        web = Web(4, RING.ties, 2, 1)
        for lot in all_lots(4):
            if 2 in lot and 1 not in lot:
                self.assertEqual(side_worth(web, lot), worth_of_side(web, lot))
            else:
                self.assertRaises(NoSide, side_worth, web, lot)

    def test_no_side(self):
        for side in ([0], (0, 0), (1, 0), (0, 2), (1,), (), (0, 3), (0, 4), (-1, 0), (0, -1), (0, True), (False,),
                     (False, 1), (0, "1"), (0, None), (0, (1,)), "0", b"\x00", {0: 0}, None, 0, ((0,),), (0, 1, 2)):
            with self.subTest(repr(side)):
                self.assertRaises(NoSide, side_worth, ROW, side)
                self.assertIs(is_paper(ROW, (0, 0), side), False)
                self.assertIs(is_paper(ROW, (2, 2), side), False)

    def test_things_of_all_kinds(self):
        for thing in odd_things():
            with self.subTest(repr(thing)[:60]):
                if thing != (0,) or not isinstance(thing, tuple):
                    self.assertRaises(NoSide, side_worth, ROW, thing)
                self.assertIs(is_paper(ROW, (2, 2), thing), False)
                self.assertRaises(NoSide, side_worth, ROW, (0, thing))
                self.assertIs(is_paper(ROW, (2, 2), (thing, 1)), False)


class Papers(unittest.TestCase):
    def test_side_of(self):
        self.assertEqual(side_of(ROW, (2, 2)), (0, 1))
        self.assertIsNone(side_of(ROW, (1, 1)))
        self.assertEqual(side_of(Web(3, ROW.ties, 2, 0), (0, 0)), (2,))
        # Ways go through ties against their stream, if there is room.
        web = Web(5, ((0, 1, 1, 0), (0, 3, 1, 0), (1, 2, 1, 0), (2, 3, 0, 5), (2, 4, 1, 0), (3, 4, 0, 0)), 0, 4)
        self.assertEqual(side_of(web, (1, 0, 1, 0, 1, 0)), (0, 1, 2, 3))
        back = Web(4, ((0, 1, 2, 0), (1, 2, 2, 0), (2, 3, 1, 0)), 1, 3)
        self.assertEqual(side_of(back, (0, 1, 1)), (1, 2))
        self.assertEqual(side_of(Web(4, back.ties, 0, 3), (1, 1, 1)), (0, 1, 2))

    def test_is_paper(self):
        self.assertIs(is_paper(ROW, (2, 2), (0, 1)), True)
        self.assertIs(is_paper(ROW, (2, 2), (0,)), False)
        self.assertIs(is_paper(ROW, (1, 1), (0, 1)), False)
        self.assertIs(is_paper(NO_TIES, (), (0,)), True)
        self.assertIs(is_paper(NO_TIES, (), (0, 1)), True)
        self.assertIs(is_paper(NO_TIES, (), (0, 2)), False)
        self.assertRaises(NoStream, is_paper, ROW, (1, 2), (0, 1))

    def test_the_fact_of_papers(self):
        greatest_ones = 0
        for seed in range(120):
            draw = Draw(seed)
            web = drawn_web(draw, many=draw.among(2, 6), most_units=2 + seed % 4)
            stream = drawn_stream(draw, web, rounds=16)
            papers = [side for side in all_sides(web) if worth_of_side(web, side) == gains(web, stream)[web.mouth]]
            told = side_of(web, stream)
            greatest = worth(web, stream) == least_side(web)
            greatest_ones += greatest
            self.assertEqual(greatest, bool(papers))
            self.assertEqual(greatest, told is not None)
            for side in all_sides(web):
                self.assertIs(is_paper(web, stream, side), side in papers)
            if told is not None:
                self.assertIn(told, papers)
                self.assertTrue(set(told) <= set.intersection(*[set(side) for side in papers]))
        self.assertTrue(20 < greatest_ones < 100)

    def test_a_paper_is_a_tuple(self):
        self.assertIs(is_paper(ROW, (2, 2), [0, 1]), False)
        self.assertIs(is_paper(ROW, (2, 2), (False, True)), False)
        self.assertIs(is_paper(ROW, (2, 2), (0, 1, 1)), False)
        self.assertIs(is_paper(ROW, (2, 2), (1, 0)), False)


if __name__ == "__main__":
    unittest.main()

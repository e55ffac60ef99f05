"""[1.4]: splits of streams into ways."""
import unittest

from moststream.errors import NoStream
from moststream.streams import is_split, split, worth
from moststream.webs import Web
from tests.drawn import SHAPES, Draw, drawn_stream, drawn_web, odd_things, part_of
from tests.plain import gains, why_no_split

ROW = Web(3, ((0, 1, 3, 0), (1, 2, 2, 0)), 0, 2)
RING = Web(4, ((0, 1, 4, 4), (0, 2, 4, 4), (1, 2, 4, 4), (1, 3, 4, 4), (2, 3, 4, 4)), 0, 3)
BOTH = (2, 1, 1, 1, 2)
TWO_WAYS = (((0, 1, 3), 1), ((0, 1, 2, 3), 1), ((0, 2, 3), 1))


class Split(unittest.TestCase):
    def test_small(self):
        self.assertEqual(split(ROW, (2, 2)), (((0, 1, 2), 2),))
        self.assertEqual(split(ROW, (0, 0)), ())
        self.assertEqual(split(Web(3, (), 0, 2), ()), ())
        self.assertEqual(split(Web(2, ((0, 1, 5, 7),), 1, 0), (-7,)), (((1, 0), 7),))

    def test_none_below_no_worth(self):
        web = Web(2, ((0, 1, 5, 7),), 0, 1)
        self.assertIsNone(split(web, (-1,)))
        self.assertIsNone(split(web, (-7,)))
        self.assertEqual(split(web, (0,)), ())

    def test_rings_stay_out(self):
        self.assertEqual(split(RING, (-1, 1, -1, 0, 0)), ())
        stream = (1, 0, 3, -2, 3)
        self.assertEqual(split(RING, stream), (((0, 1, 2, 3), 1),))

    def test_rings_through_spring_and_mouth(self):
        # Five units come to the mouth, and three of them go back to the spring.
        web = Web(3, ((0, 1, 0, 3), (0, 2, 5, 0), (1, 2, 0, 3)), 0, 2)
        self.assertEqual(split(web, (-3, 5, -3)), (((0, 2), 2),))
        self.assertEqual(split(Web(3, ((0, 1, 0, 3), (0, 2, 5, 0), (1, 2, 0, 3)), 0, 2), (-3, 3, -3)), ())

    def test_no_stream(self):
        for stream in [(1, 2), [2, 2], (2,), (3, 2), *odd_things()]:
            with self.subTest(repr(stream)[:60]):
                self.assertRaises(NoStream, split, ROW, stream)
                self.assertRaises(NoStream, is_split, ROW, stream, (((0, 1, 2), 2),))
                self.assertRaises(NoStream, is_split, ROW, stream, None)

    def test_the_fact_of_splits(self):
        many_parts = below = 0
        for seed in range(200):
            draw = Draw(seed)
            web = drawn_web(draw, most_units=(2, 9, 999999)[seed % 3], shape=SHAPES[seed % len(SHAPES)])
            stream = drawn_stream(draw, web, rounds=3 + seed % 20)
            told = split(web, stream)
            if worth(web, stream) < 0:
                below += 1
                self.assertIsNone(told)
            else:
                self.assertIsNone(why_no_split(web, stream, told))
                self.assertIs(is_split(web, stream, told), True)
                many_parts = max(many_parts, len(told))
        self.assertTrue(many_parts > 3 and below > 10)


class IsSplit(unittest.TestCase):
    def refused(self, why, thing, web=RING, stream=BOTH):
        self.assertEqual(why_no_split(web, stream, thing), why)
        self.assertIs(is_split(web, stream, thing), False)

    def test_any_order_and_the_same_way_twice(self):
        self.assertIs(is_split(RING, BOTH, TWO_WAYS), True)
        self.assertIs(is_split(RING, BOTH, TWO_WAYS[::-1]), True)
        self.assertIs(is_split(ROW, (2, 2), (((0, 1, 2), 1), ((0, 1, 2), 1))), True)

    def test_form(self):
        self.refused("tuple", list(TWO_WAYS))
        self.refused("tuple", None)
        self.refused("pair", TWO_WAYS[:2] + ([(0, 2, 3), 1],))
        self.refused("pair", TWO_WAYS[:2] + (((0, 2, 3), 1, 1),))
        self.refused("pair", TWO_WAYS[:2] + (((0, 2, 3),),))
        self.refused("pair", TWO_WAYS[:2] + (([0, 2, 3], 1),))
        self.refused("pair", TWO_WAYS + ((),))

    def test_ways(self):
        self.refused("ends", TWO_WAYS + (((), 1),))
        self.refused("ends", TWO_WAYS[:2] + (((2, 3), 1),))
        self.refused("ends", TWO_WAYS[:2] + (((0, 2), 1),))
        self.refused("ends", TWO_WAYS[:2] + (((3, 2, 0), 1),))
        self.refused("ends", TWO_WAYS[:2] + (((0,), 1),))
        self.refused("ends", TWO_WAYS[:2] + (((3,), 1),))
        self.refused("neighbour", TWO_WAYS[:2] + (((0, 3), 1),))
        self.refused("house", (((False, 1, 3), 1),) + TWO_WAYS[1:])
        self.refused("house", (((0, True, 3), 1),) + TWO_WAYS[1:])
        self.refused("house", (((0, "1", 3), 1),) + TWO_WAYS[1:])
        self.refused("neighbour", (((0, 4, 3), 1),) + TWO_WAYS[1:])
        self.refused("neighbour", (((0, -2, 3), 1),) + TWO_WAYS[1:])

    def test_each_house_is_tied_to_the_one_ahead(self):
        web = Web(5, ((0, 1, 4, 4), (0, 2, 4, 4), (1, 4, 4, 4), (2, 3, 4, 4), (3, 4, 4, 4)), 0, 4)
        stream = (2, 2, 2, 2, 2)
        self.assertIs(is_split(web, stream, (((0, 1, 4), 2), ((0, 2, 3, 4), 2))), True)
        self.refused("neighbour", (((0, 1, 3, 4), 2), ((0, 2, 3, 4), 2)), web, stream)
        self.refused("neighbour", (((0, 3, 4), 2), ((0, 1, 4), 2)), web, stream)
        self.refused("neighbour", (((0, 2, 4), 2), ((0, 1, 4), 2)), web, stream)

    def test_no_house_twice(self):
        web = Web(4, ((0, 1, 4, 4), (1, 2, 4, 4), (1, 3, 4, 4)), 0, 3)
        self.assertIs(is_split(web, (2, 0, 2), (((0, 1, 3), 2),)), True)
        self.refused("twice", (((0, 1, 2, 1, 3), 2),), web, (2, 0, 2))
        self.refused("twice", (((0, 1, 2, 0, 1, 3), 1),) + TWO_WAYS[1:])
        ring = Web(5, ((0, 1, 2, 0), (1, 2, 2, 0), (1, 3, 0, 2), (1, 4, 2, 0), (2, 3, 2, 0)), 0, 4)
        self.refused("twice", (((0, 1, 2, 3, 1, 4), 2),), ring, (2, 2, -2, 2, 2))

    def test_units(self):
        for units in (0, -1, True, False, None, "1", (1,), [1], {}):
            with self.subTest(repr(units)):
                self.refused("units", part_of(TWO_WAYS, 1, ((0, 1, 2, 3), units)))
        self.refused("units", (((0, 1, 2), 3), ((0, 1, 2), -1)), ROW, (2, 2))
        self.refused("units", (((0, 1, 2), 2), ((0, 1, 2), 0)), ROW, (2, 2))

    def test_not_more_than_the_stream(self):
        self.refused("over", (((0, 1, 3), 2), ((0, 2, 3), 1)))
        self.refused("over", (((0, 1, 3), 1), ((0, 2, 3), 2)))
        self.refused("over", TWO_WAYS[:2] + (((0, 2, 1, 3), 1),))
        self.refused("over", (((0, 1, 2), 10 ** 19),), ROW, (2, 2))
        self.refused("over", (((0, 1, 2), 1), ((0, 1, 2), 2)), ROW, (2, 2))

    def test_all_units_together(self):
        self.refused("all", TWO_WAYS[:2])
        self.refused("all", ())
        self.refused("all", (((0, 1, 2), 1),), ROW, (2, 2))
        self.refused("over", TWO_WAYS + TWO_WAYS[:1])
        # A ring through spring and mouth would let more units go than the stream is worth.
        web = Web(3, ((0, 1, 0, 3), (0, 2, 5, 0), (1, 2, 0, 3)), 0, 2)
        self.assertIs(is_split(web, (-3, 5, -3), (((0, 2), 2),)), True)
        self.refused("all", (((0, 2), 5),), web, (-3, 5, -3))
        self.refused("all", (((0, 2), 3),), web, (-3, 5, -3))

    def test_at_most_as_many_pairs_as_ties(self):
        one_tie = Web(2, ((0, 1, 5, 0),), 0, 1)
        self.assertIs(is_split(one_tie, (2,), (((0, 1), 2),)), True)
        self.refused("many", (((0, 1), 1), ((0, 1), 1)), one_tie, (2,))
        row = Web(3, ((0, 1, 3, 0), (1, 2, 3, 0)), 0, 2)
        self.refused("many", (((0, 1, 2), 1),) * 3, row, (3, 3))
        self.assertIs(is_split(row, (3, 3), (((0, 1, 2), 1), ((0, 1, 2), 2))), True)

    def test_of_no_worth(self):
        self.assertIs(is_split(ROW, (0, 0), ()), True)
        self.assertIs(is_split(ROW, (0, 0), []), False)
        self.refused("over", (((0, 1, 2), 1),), ROW, (0, 0))
        self.assertIs(is_split(RING, (-1, 1, -1, 0, 0), ()), True)

    def test_of_a_worth_below_0(self):
        web = Web(2, ((0, 1, 5, 7),), 0, 1)
        for thing in ((), None, (((0, 1), -1),), (((1, 0), 1),), (((0, 1), 1),)):
            self.assertIs(is_split(web, (-1,), thing), False)

    def test_things_of_all_kinds(self):
        for thing in odd_things():
            with self.subTest(repr(thing)[:60]):
                self.assertIs(is_split(ROW, (2, 2), thing), False)
                self.assertIs(is_split(ROW, (2, 2), (thing,)), False)
                self.assertIs(is_split(ROW, (2, 2), ((thing, 2),)), False)
                self.assertIs(is_split(ROW, (2, 2), (((0, 1, 2), thing),)), False)
                self.assertIs(is_split(ROW, (2, 2), (((0, thing, 2), 2),)), False)
                self.assertIs(is_split(ROW, (2, 2), (((0, 1, 2), 2), thing)), False)

    def test_splits_that_were_changed(self):
        refused = 0
        for seed in range(150):
            draw = Draw(seed)
            web = drawn_web(draw, many=draw.among(3, 7), most_units=4, shape="some")
            stream = drawn_stream(draw, web, rounds=12)
            if gains(web, stream)[web.mouth] < 1:
                continue
            thing = split(web, stream)
            way, units = thing[-1]
            changed = [
                thing[:-1], thing + (thing[0],), thing[:-1] + ((way, units - 1),), thing[:-1] + ((way, units + 1),),
                thing[:-1] + ((way[::-1], units),), thing[:-1] + ((way[1:], units),), thing[:-1] + ((way[:-1], units),),
                thing[:-1] + ((way[:1] + way[-1:], units),), thing[::-1], thing[:-1] + ((way, 1),) * units,
            ]
            for other in changed:
                due = why_no_split(web, stream, other) is None
                refused += not due
                self.assertIs(is_split(web, stream, other), due)
        self.assertTrue(refused > 200)


if __name__ == "__main__":
    unittest.main()

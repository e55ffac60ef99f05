"""[1.1]: webs, neighbours, what ties let through."""
import unittest

from moststream.errors import BadWeb, NoHouse, NoTie, StreamError
from moststream.webs import Web, lets, neighbours
from tests.drawn import SHAPES, Draw, drawn_web, no_houses, odd_things, part_of
from tests.plain import around, tie_of

ROW = ((0, 1, 3, 0), (1, 2, 2, 0))


class Made(unittest.TestCase):
    def refused(self, part, *arguments):
        with self.assertRaises(BadWeb) as caught:
            Web(*arguments)
        self.assertEqual(caught.exception.part, part)
        self.assertIs(type(caught.exception.part), type(part))

    def test_attributes(self):
        web = Web(3, ROW, 0, 2)
        self.assertEqual((web.many, web.ties, web.spring, web.mouth), (3, ROW, 0, 2))
        self.assertIs(type(web.ties), tuple)

    def test_least_and_most_houses(self):
        self.assertEqual(Web(2, (), 0, 1).many, 2)
        self.assertEqual(Web(2, (), 1, 0).spring, 1)
        self.assertEqual(Web(10, (), 9, 0).many, 10)
        for many in (1, 11, 0, -2, 3000):
            with self.subTest(many):
                self.refused("many", many, (), 0, 1)

    def test_a_tie_lets_nothing_or_much(self):
        ties = ((0, 1, 0, 0), (0, 2, 999999, 0), (1, 2, 0, 999999), (2, 3, 999999, 999999))
        self.assertEqual(Web(4, ties, 3, 0).ties, ties)
        for at in (2, 3):
            for units in (1000000, 1000001, -1, 10 ** 19):
                with self.subTest(at=at, units=units):
                    self.refused(0, 2, (part_of((0, 1, 5, 5), at, units),), 0, 1)

    def test_ends_of_ties(self):
        for pair in ((0, 0), (1, 0), (0, 3), (3, 4), (-1, 0), (2, 2), (-2, -1)):
            with self.subTest(pair):
                self.refused(0, 3, (pair + (1, 1),), 0, 2)

    def test_pairs_ascend(self):
        self.refused(1, 3, ((0, 1, 1, 1), (0, 1, 1, 1)), 0, 2)
        self.refused(1, 3, ((0, 1, 1, 1), (0, 1, 2, 1)), 0, 2)
        self.refused(1, 3, ((0, 2, 1, 1), (0, 1, 1, 1)), 0, 2)
        self.refused(1, 3, ((1, 2, 1, 1), (0, 2, 5, 5)), 0, 2)
        self.refused(2, 3, ((0, 1, 1, 1), (0, 2, 1, 1), (0, 2, 1, 1)), 0, 2)
        self.assertEqual(len(Web(3, ((0, 1, 9, 9), (0, 2, 0, 0), (1, 2, 0, 0)), 0, 2).ties), 3)

    def test_the_first_bad_tie_is_told(self):
        self.refused(1, 3, ((0, 1, 1, 1), None, (0, 1, 1, 1)), 0, 2)
        self.refused(2, 4, ((0, 1, 1, 1), (0, 2, 1, 1), (0, 3, 1), (0, 3, -1, 1)), 0, 2)

    def test_a_tie_is_a_tuple_of_four_integers(self):
        good = (0, 1, 1, 1)
        for tie in ([0, 1, 1, 1], (0, 1, 1), (0, 1, 1, 1, 1), "0111", b"\x00\x01\x01\x01", {0: 1}):
            with self.subTest(repr(tie)):
                self.refused(0, 2, (tie,), 0, 1)
        for at in range(4):
            for thing in [None, "1", [1], (1,), True, False, b"1", {}, Web(2, (), 0, 1)]:
                with self.subTest(at=at, thing=repr(thing)):
                    self.refused(0, 2, (part_of(good, at, thing),), 0, 1)

    def test_no_tuple_of_ties(self):
        for ties in ([], [(0, 1, 1, 1)], None, {}, 0, "", "ties", b"", True):
            with self.subTest(repr(ties)):
                self.refused(-1, 2, ties, 0, 1)

    def test_a_flag_is_no_integer(self):
        self.refused("many", True, (), 0, 1)
        self.refused("spring", 2, (), False, 1)
        self.refused("mouth", 2, (), 0, True)

    def test_spring_and_mouth(self):
        self.refused("spring", 3, ROW, 3, 2)
        self.refused("spring", 3, ROW, -1, 2)
        self.refused("mouth", 3, ROW, 0, 3)
        self.refused("mouth", 3, ROW, 0, -1)
        self.refused("mouth", 3, ROW, 0, 0)
        self.refused("mouth", 3, ROW, 2, 2)

    def test_the_first_of_several_is_told(self):
        self.refused("many", 1, None, None, None)
        self.refused(-1, 2, [], None, None)
        self.refused(0, 2, (None,), None, None)
        self.refused("spring", 2, (), None, None)
        self.refused("spring", 2, (), 2, 2)
        self.refused("mouth", 2, (), 0, None)

    def test_things_of_all_kinds(self):
        for thing in odd_things():
            with self.subTest(repr(thing)[:60]):
                self.refused("many", thing, (), 0, 1)
                self.refused("spring", 2, (), thing, 1)
                self.refused("mouth", 2, (), 0, thing)
                self.refused(0, 2, (thing,), 0, 1)
                if not isinstance(thing, tuple):
                    self.refused(-1, 2, thing, 0, 1)
                elif thing:
                    self.refused(0, 2, thing, 0, 1)

    def test_bad_web_is_the_package_s_error(self):
        with self.assertRaises(StreamError):
            Web(0, (), 0, 1)


class Equal(unittest.TestCase):
    def test_equal_if_all_attributes_are(self):
        self.assertTrue(Web(3, ROW, 0, 2) == Web(3, tuple(list(ROW)), 0, 2))
        self.assertFalse(Web(3, ROW, 0, 2) != Web(3, ROW, 0, 2))

    def test_unequal_if_one_is_not(self):
        web = Web(3, ROW, 0, 2)
        others = (Web(4, ROW, 0, 2), Web(3, ROW[:1], 0, 2), Web(3, ROW, 1, 2), Web(3, ROW, 0, 1),
                  Web(3, ((0, 1, 3, 0), (1, 2, 2, 1)), 0, 2))
        for other in others:
            self.assertFalse(web == other)
            self.assertTrue(web != other)

    def test_equal_to_nothing_else(self):
        web = Web(2, ((0, 1, 1, 1),), 0, 1)
        for thing in odd_things() + [(2, ((0, 1, 1, 1),), 0, 1)]:
            if not isinstance(thing, Web):
                self.assertFalse(web == thing)
                self.assertTrue(web != thing)


class Ties(unittest.TestCase):
    def test_example(self):
        web = Web(3, ROW, 0, 2)
        self.assertEqual([neighbours(web, house) for house in range(3)], [(1,), (0, 2), (1,)])
        self.assertEqual(lets(web, 0, 1), 3)
        self.assertEqual(lets(web, 1, 0), 0)

    def test_neighbours_ascend_and_do_not_ask_what_is_let_through(self):
        web = Web(6, ((0, 3, 0, 0), (1, 3, 1, 0), (2, 3, 0, 1), (3, 4, 0, 0), (3, 5, 7, 7)), 5, 4)
        self.assertEqual(neighbours(web, 3), (0, 1, 2, 4, 5))
        self.assertEqual(neighbours(web, 5), (3,))
        self.assertEqual(neighbours(Web(2, (), 0, 1), 0), ())

    def test_drawn_webs(self):
        for seed in range(60):
            web = drawn_web(Draw(seed), shape=SHAPES[seed % len(SHAPES)])
            for one in range(web.many):
                self.assertEqual(neighbours(web, one), tuple(around(web, one)))
                for other in range(web.many):
                    if tie_of(web, one, other):
                        self.assertEqual(lets(web, one, other), tie_of(web, one, other)[0])
                    else:
                        self.assertRaises(NoTie, lets, web, one, other)

    def test_no_house(self):
        web = Web(3, ROW, 0, 2)
        for thing in no_houses(3):
            with self.subTest(repr(thing)[:60]):
                self.assertRaises(NoHouse, neighbours, web, thing)
                self.assertRaises(NoHouse, lets, web, thing, 1)
                self.assertRaises(NoHouse, lets, web, 1, thing)
                self.assertRaises(NoHouse, lets, web, 0, thing)

    def test_no_tie(self):
        web = Web(4, ROW, 0, 2)
        for one, other in ((0, 2), (2, 0), (1, 1), (3, 3), (3, 0), (1, 3)):
            self.assertRaises(NoTie, lets, web, one, other)


if __name__ == "__main__":
    unittest.main()

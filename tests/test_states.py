"""[2.1] and the start of [2.2]: words and states by their form, how houses begin, the spring's start."""
import unittest

from moststream.errors import NoHouse, NotSpring
from moststream.states import begun, is_state, is_word, started
from moststream.webs import Web, lets, neighbours
from tests.drawn import Draw, drawn_web, no_houses, odd_things, part_of
from tests.plain import House, around, tie_of

ROW = Web(3, ((0, 1, 3, 0), (1, 2, 2, 0)), 0, 2)
# House 2 is the spring, 1 the mouth; to house 3 the spring has no room, to 4 it is not tied.
STAR = Web(5, ((0, 1, 4, 5), (0, 2, 0, 6), (1, 2, 2, 7), (2, 3, 0, 8), (3, 4, 1, 1)), 2, 1)


class Words(unittest.TestCase):
    def test_of_all_sorts(self):
        for word in (("pour", 1), ("pour", 10 ** 9 - 1), ("push", 1, 0), ("push", 10 ** 9 - 1, 999), ("yes",),
                     ("no", 0), ("no", 999), ("rise", 0), ("rise", 999)):
            with self.subTest(word):
                self.assertIs(is_word(word), True)

    def test_numbers_that_are_too_small_or_great(self):
        for word in (("pour", 0), ("pour", 10 ** 9), ("pour", -1), ("push", 0, 1), ("push", 10 ** 9, 1),
                     ("push", 1, 1000), ("push", 1, -1), ("no", 1000), ("no", -1), ("rise", 1000), ("rise", -1),
                     ("rise", 10 ** 19)):
            with self.subTest(word):
                self.assertIs(is_word(word), False)

    def test_as_many_numbers_as_the_sort_has(self):
        for word in ((), ("pour",), ("pour", 1, 1), ("push",), ("push", 1), ("push", 1, 1, 1), ("yes", 1), ("no",),
                     ("no", 1, 1), ("rise",), ("rise", 1, 1), ("yes", "yes"), ("push", (1, 1))):
            with self.subTest(word):
                self.assertIs(is_word(word), False)

    def test_no_other_sort(self):
        for word in (("start",), ("Yes",), ("yes ",), ("",), ("take", 1), ("still", 1), (b"yes",), (None,), (0,),
                     (("yes",),), "yes", ["yes"], {"yes": 1}, ["pour", 1], (1, "pour"), b"yes", "pour", ("no ", 1)):
            with self.subTest(repr(word)):
                self.assertIs(is_word(word), False)

    def test_a_flag_is_no_number(self):
        for word in (("pour", True), ("push", True, 1), ("push", 1, True), ("push", 1, False), ("no", False),
                     ("no", True), ("rise", False), ("rise", True)):
            with self.subTest(word):
                self.assertIs(is_word(word), False)

    def test_things_of_all_kinds(self):
        for thing in odd_things():
            with self.subTest(repr(thing)[:60]):
                self.assertIs(is_word(thing), False)
                for word in (("pour", 1), ("push", 1, 1), ("no", 1), ("rise", 1)):
                    for at in range(1, len(word)):
                        self.assertIs(is_word(part_of(word, at, thing)), False)
                if not isinstance(thing, str):
                    self.assertIs(is_word((thing, 1)), False)
                self.assertIs(is_word(("yes", thing)), False)


class Forms(unittest.TestCase):
    # House 0 of STAR is tied to 1 (there 4, back 5) and to 2 (there 0, back 6).
    GOOD = ("awake", 3, 7, (1, -6), (0, 5), (2, 0))

    def holds(self, *changes):
        thing = self.GOOD
        for at, other in changes:
            thing = part_of(thing, at, other)
        return is_state(STAR, 0, thing)

    def test_good_ones(self):
        self.assertIs(self.holds(), True)
        for many in range(2, 11):
            web = drawn_web(Draw(many), many=many)
            for house in range(many):
                self.assertIs(is_state(web, house, begun(web, house)), True)

    def test_stage(self):
        self.assertIs(self.holds((0, "asleep")), True)
        for stage in ("", "Awake", "awake ", "asleep\n", None, True, 0, b"awake", ("awake",), ["awake"]):
            self.assertIs(self.holds((0, stage)), False)

    def test_height(self):
        for height in (0, 1, 999):
            self.assertIs(self.holds((1, height)), True)
        for height in (-1, 1000, True, False, None, "3", (3,)):
            self.assertIs(self.holds((1, height)), False)

    def test_held_is_any_integer(self):
        for held in (0, -1, 10 ** 19, -10 ** 19, 10 ** 30):
            self.assertIs(self.holds((2, held)), True)
        for held in (True, False, None, "7", (7,)):
            self.assertIs(self.holds((2, held)), False)

    def test_streams_fit_the_ties(self):
        for first in range(-8, 8):
            self.assertIs(self.holds((3, (first, 0)), (5, (0, 0))), -5 <= first <= 4)
            self.assertIs(self.holds((3, (0, first)), (5, (0, 0))), -6 <= first <= 0)
        self.assertIs(self.holds((3, (True, 0)), (5, (0, 0))), False)
        self.assertIs(self.holds((3, (0, False)), (5, (0, 0))), False)
        self.assertIs(self.holds((3, (0, None)), (5, (0, 0))), False)

    def test_streams_less_what_is_sent_fit_too(self):
        for sent in range(-2, 12):
            self.assertIs(self.holds((3, (4, 0)), (5, (sent, 0))), 0 <= sent <= 9)
            self.assertIs(self.holds((3, (-4, 0)), (5, (sent, 0))), 0 <= sent <= 1)
            self.assertIs(self.holds((3, (0, -6)), (5, (0, sent))), sent == 0)
        self.assertIs(self.holds((3, (5, 0)), (5, (1, 0))), False)
        self.assertIs(self.holds((5, (True, 0))), False)
        self.assertIs(self.holds((5, (0, False))), False)
        self.assertIs(self.holds((5, (0, "0"))), False)

    def test_beliefs_are_heights(self):
        for belief in (0, 999):
            self.assertIs(self.holds((4, (belief, 999 - belief))), True)
        for belief in (-1, 1000, True, False, None, "0", (0,)):
            self.assertIs(self.holds((4, (belief, 0))), False)
            self.assertIs(self.holds((4, (0, belief))), False)

    def test_as_many_as_neighbours(self):
        for at in (3, 4, 5):
            for row in ((), (0,), (0, 0, 0), [0, 0], None, 0, "00", b"\x00\x00", {0: 0, 1: 0}):
                with self.subTest(at=at, row=repr(row)):
                    self.assertIs(self.holds((at, row)), False)
        lone = Web(2, (), 0, 1)
        self.assertIs(is_state(lone, 0, ("awake", 0, 0, (), (), ())), True)
        self.assertIs(is_state(lone, 0, ("awake", 0, 0, [], (), ())), False)

    def test_a_tuple_of_six(self):
        for thing in (self.GOOD[:5], self.GOOD + (0,), list(self.GOOD), (), None, "awake", (self.GOOD,)):
            with self.subTest(repr(thing)):
                self.assertIs(is_state(STAR, 0, thing), False)

    def test_of_this_house(self):
        self.assertIs(is_state(STAR, 3, self.GOOD), False)
        self.assertIs(is_state(STAR, 3, ("awake", 0, 0, (8, -1), (0, 0), (0, 0))), True)
        self.assertIs(is_state(STAR, 0, ("awake", 0, 0, (8, -1), (0, 0), (0, 0))), False)
        self.assertIs(is_state(STAR, 4, ("awake", 0, 0, (1,), (0,), (0,))), True)

    def test_things_of_all_kinds(self):
        for thing in odd_things():
            with self.subTest(repr(thing)[:60]):
                self.assertIs(is_state(STAR, 0, thing), False)
                for at in range(6):
                    if at != 2 or type(thing) is not int:
                        self.assertIs(self.holds((at, thing)), False)
                for at in (3, 4, 5):
                    # -1 is a stream that the tie lets through.
                    if at != 3 or type(thing) is not int:
                        self.assertIs(self.holds((at, (thing, 0))), False)
                        self.assertIs(self.holds((at, (0, thing))), False)

    def test_no_house(self):
        for thing in no_houses(5):
            with self.subTest(repr(thing)[:60]):
                self.assertRaises(NoHouse, is_state, STAR, thing, self.GOOD)
                self.assertRaises(NoHouse, is_state, STAR, thing, None)


class Begun(unittest.TestCase):
    def test_example(self):
        self.assertEqual(begun(ROW, 0), ("asleep", 3, 0, (0,), (0,), (0,)))
        self.assertEqual(begun(ROW, 1), ("asleep", 0, 0, (0, 0), (3, 0), (0, 0)))
        self.assertEqual(begun(ROW, 2), ("awake", 0, 0, (0,), (0,), (0,)))

    def test_asleep_where_the_spring_has_room(self):
        self.assertEqual(begun(STAR, 0), ("asleep", 0, 0, (0, 0), (0, 5), (0, 0)))
        self.assertEqual(begun(STAR, 1), ("asleep", 0, 0, (0, 0), (0, 5), (0, 0)))
        self.assertEqual(begun(STAR, 2), ("asleep", 5, 0, (0, 0, 0), (0, 0, 0), (0, 0, 0)))
        self.assertEqual(begun(STAR, 3), ("awake", 0, 0, (0, 0), (5, 0), (0, 0)))
        self.assertEqual(begun(STAR, 4), ("awake", 0, 0, (0,), (0,), (0,)))

    def test_without_ties(self):
        web = Web(10, (), 9, 0)
        self.assertEqual(begun(web, 9), ("asleep", 10, 0, (), (), ()))
        self.assertEqual(begun(web, 0), ("awake", 0, 0, (), (), ()))

    def test_drawn(self):
        for seed in range(60):
            web = drawn_web(Draw(seed))
            for house in range(web.many):
                near = around(web, house)
                zeros = (0,) * len(near)
                stage, height, held, streams, beliefs, sent = begun(web, house)
                spring = house == web.spring
                wakes = web.spring in near and tie_of(web, web.spring, house)[0] > 0
                self.assertEqual(stage, "asleep" if spring or wakes else "awake")
                self.assertEqual(height, web.many if spring else 0)
                self.assertEqual((held, streams, sent), (0, zeros, zeros))
                self.assertEqual(beliefs, tuple(web.many * (other == web.spring) for other in near))

    def test_no_house(self):
        for thing in no_houses(3):
            with self.subTest(repr(thing)[:60]):
                self.assertRaises(NoHouse, begun, ROW, thing)


class Started(unittest.TestCase):
    def test_example(self):
        self.assertEqual(started(ROW, 0, begun(ROW, 0)),
                         (("awake", 3, -3, (3,), (0,), (0,)), ((1, ("pour", 3)),)))

    def test_pours_where_it_has_room_ascending(self):
        self.assertEqual(started(STAR, 2, begun(STAR, 2)),
                         (("awake", 5, -13, (6, 7, 0), (0, 0, 0), (0, 0, 0)), ((0, ("pour", 6)), (1, ("pour", 7)))))

    def test_with_a_stream_that_stands(self):
        state = ("asleep", 5, 4, (2, 7, -8), (3, 1, 4), (0, 2, 0))
        self.assertTrue(is_state(STAR, 2, state))
        self.assertEqual(started(STAR, 2, state),
                         (("awake", 5, -8, (6, 7, 0), (3, 1, 4), (0, 2, 0)), ((0, ("pour", 4)), (3, ("pour", 8)))))

    def test_without_room(self):
        web = Web(3, ((0, 1, 0, 5), (1, 2, 5, 5)), 0, 2)
        self.assertEqual(started(web, 0, begun(web, 0)), (("awake", 3, 0, (0,), (0,), (0,)), ()))
        web = Web(2, (), 0, 1)
        self.assertEqual(started(web, 0, begun(web, 0)), (("awake", 2, 0, (), (), ()), ()))

    def test_drawn(self):
        for seed in range(60):
            web = drawn_web(Draw(seed))
            house = House(web, web.spring, begun(web, web.spring))
            house.start()
            told = started(web, web.spring, begun(web, web.spring))
            self.assertEqual(told, house.told())
            self.assertEqual(told[0][2], -sum(lets(web, web.spring, other) for other in neighbours(web, web.spring)))
            self.assertIs(is_state(web, web.spring, told[0]), True)

    def test_not_spring(self):
        for house in (1, 2):
            self.assertRaises(NotSpring, started, ROW, house, begun(ROW, house))
        awake = started(ROW, 0, begun(ROW, 0))[0]
        self.assertRaises(NotSpring, started, ROW, 0, awake)
        self.assertRaises(NotSpring, started, ROW, 0, ("awake",) + begun(ROW, 0)[1:])

    def test_no_house_comes_first(self):
        for thing in no_houses(3):
            with self.subTest(repr(thing)[:60]):
                self.assertRaises(NoHouse, started, ROW, thing, begun(ROW, 0))


if __name__ == "__main__":
    unittest.main()

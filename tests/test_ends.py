"""[4.1] and [4.2]: runs to the end in every order, the stream that stands then, and the numbers of words."""
import unittest

from moststream.ends import bounds, run_from, run_out, stream_of
from moststream.errors import NoChoices, NoGlass, NoStream
from moststream.glass import first_glass, first_glass_of, is_glass, moved, moves
from moststream.streams import is_stream, side_of, worth
from moststream.webs import Web, neighbours
from tests.drawn import SHAPES, Draw, drawn_choices, drawn_stream, drawn_web, odd_things, orders, part_of
from tests.plain import least_side
from tests.worlds import World

ROW = Web(3, ((0, 1, 3, 0), (1, 2, 2, 0)), 0, 2)
BARE = Web(10, (), 9, 0)
# Two ties that let nothing through either way, and one that lets units through only away from the mouth.
SHUT = Web(4, ((0, 1, 0, 0), (0, 3, 0, 0), (1, 3, 0, 7)), 0, 3)


def plain_run(web, stream, choices):
    """[4.1], word by word."""
    world = World(web, stream)
    for choice in choices:
        if world.moves():
            world.do(world.moves()[choice % len(world.moves())])
    while world.moves():
        world.do(min(world.moves()))
    return world.glass(), tuple(world.counts.values())


class AnEnd(unittest.TestCase):
    def holds(self, web, glass, counts):
        """THE FACT OF ENDS and THE FACT OF NUMBERS."""
        states, ways = glass
        self.assertIs(is_glass(web, glass), True)
        self.assertEqual((ways, moves(web, glass)), ((), ()))
        for house, state in enumerate(states):
            self.assertEqual([sent for sent in state[5] if sent], [])
            if house not in (web.spring, web.mouth):
                self.assertEqual(state[2], 0)
        stream = stream_of(web, glass)
        self.assertIs(is_stream(web, stream), True)
        self.assertEqual(worth(web, stream), least_side(web))
        self.assertEqual(states[web.mouth][2], least_side(web))
        self.assertEqual(states[web.spring][2], -least_side(web))
        self.assertIsNotNone(side_of(web, stream))
        self.assertEqual(len(counts), 5)
        for count, bound in zip(counts, bounds(web)):
            self.assertTrue(0 <= count <= bound)
        self.assertEqual(counts[1], counts[2] + counts[3])
        self.assertLessEqual(max(state[1] for state in states), 2 * web.many - 1)


class RunOut(AnEnd):
    def test_of_the_example(self):
        glass, counts = run_out(ROW, ())
        self.assertEqual(counts, (1, 2, 2, 0, 4))
        self.assertEqual(glass, ((("awake", 3, -2, (2,), (4,), (0,)), ("awake", 4, 0, (-2, 2), (3, 0), (0, 0)),
                                  ("awake", 0, 2, (-2,), (4,), (0,))), ()))
        self.holds(ROW, glass, counts)

    def test_choices_of_either_kind(self):
        self.assertEqual(run_out(ROW, []), run_out(ROW, ()))
        self.assertEqual(run_out(ROW, [1, 1, 1]), run_out(ROW, (1, 1, 1)))
        self.assertEqual(run_out(ROW, [0] * 50), run_out(ROW, ()))

    def test_choices_of_twenty_figures(self):
        web = drawn_web(Draw(6), many=5, shape="all")
        for choice in (10 ** 19, 10 ** 20 - 1, 10 ** 20 - 3):
            glass, counts = run_out(web, (choice,) * 9)
            self.assertEqual((glass, counts), plain_run(web, None, (choice,) * 9))
            self.holds(web, glass, counts)

    def test_more_choices_than_moves(self):
        self.assertEqual(run_out(ROW, (0,) * 20000), run_out(ROW, ()))
        self.assertEqual(run_out(BARE, [7] * 20000), run_out(BARE, ()))

    def test_the_choice_is_taken_modulo_how_many_there_are(self):
        web = Web(3, ((0, 1, 9, 9), (0, 2, 9, 9), (1, 2, 9, 9)), 0, 2)
        glass = moved(web, first_glass(web), ("start", 0))
        self.assertEqual(moves(web, glass), (("take", 0, 1), ("take", 0, 2)))
        self.assertEqual(run_out(web, (5, 1)), run_out(web, (0, 3)))
        self.assertEqual(run_out(web, (5, 2, 0, 1)), plain_run(web, None, (0, 0, 0, 1)))

    def test_against_a_plain_run(self):
        for seed in range(70):
            draw = Draw(seed)
            web = drawn_web(draw, many=2 + seed % 7, most_units=(3, 9, 999999)[seed % 3],
                            shape=("some", "all", *SHAPES)[seed % 9])
            choices = drawn_choices(draw)
            glass, counts = run_out(web, choices)
            self.assertEqual((glass, counts), plain_run(web, None, choices))
            self.holds(web, glass, counts)

    def test_the_largest_webs(self):
        taken = 0
        for seed in range(8):
            draw = Draw(seed)
            web = drawn_web(draw, many=10, most_units=(3, 999999)[seed % 2], shape=("some", "all")[seed % 2])
            glass, counts = run_out(web, drawn_choices(draw))
            self.holds(web, glass, counts)
            taken += sum(counts)
        self.assertTrue(taken > 1000, taken)

    def test_in_all_orders(self):
        for seed in range(60):
            draw = Draw(seed)
            web = drawn_web(draw, many=2 + seed % 9, most_units=(1, 9, 999)[seed % 3])
            for pick in orders(draw).values():
                world = World(web)
                choices = []
                while world.moves():
                    move = pick(world.glass(), world.moves())
                    choices.append(world.moves().index(move))
                    world.do(move)
                glass, counts = run_out(web, choices)
                self.assertEqual(glass, world.glass())
                self.assertEqual(counts, tuple(world.counts.values()))
                self.holds(web, glass, counts)

    def test_without_ties_or_with_ties_that_let_nothing_through(self):
        for web in (BARE, SHUT, Web(2, (), 1, 0), Web(2, ((0, 1, 0, 9),), 0, 1)):
            glass, counts = run_out(web, (3, 1, 4))
            self.assertEqual(counts, (0, 0, 0, 0, 0))
            self.assertEqual(glass, moved(web, first_glass(web), ("start", web.spring)))
            self.holds(web, glass, counts)

    def test_no_choices(self):
        for thing in odd_things():
            with self.subTest(repr(thing)[:60]):
                self.wrong_choices(thing, lambda choices: run_out(ROW, choices))
                self.wrong_choices((4, thing, -1), lambda choices: run_out(ROW, choices))
                self.wrong_choices([4, 4, thing, None], lambda choices: run_out(ROW, choices))

    def wrong_choices(self, choices, call):
        """Whether call raises what is due for choices, or nothing where nothing is due."""
        due = None
        if not isinstance(choices, (list, tuple)):
            due = -1
        else:
            wrong = [at for at, choice in enumerate(choices) if type(choice) is not int or choice < 0]
            due = wrong[0] if wrong else None
        if due is None:
            call(choices)
            return
        with self.assertRaises(NoChoices) as caught:
            call(choices)
        self.assertEqual(caught.exception.index, due)

    def test_the_first_that_is_no_number(self):
        for choices, index in (((True,), 0), ((0, False), 1), ([3, -1, None], 1), ((1, 2, "3"), 2), (("0", -1), 0),
                               ([0] * 500 + [None], 500), ((b"1",), 0), ([[]], 0), ((1, (2,)), 1), ("01", -1),
                               (b"01", -1), ({0: 1}, -1), (None, -1), (3, -1), (True, -1), (range(3), -1), ("", -1)):
            with self.subTest(repr(choices)[:40]):
                with self.assertRaises(NoChoices) as caught:
                    run_out(ROW, choices)
                self.assertEqual(caught.exception.index, index)

    def test_what_is_passed_stays(self):
        choices = [5, 0, 10 ** 20 - 1]
        run_out(ROW, choices)
        run_from(ROW, (1, 1), choices)
        self.assertEqual(choices, [5, 0, 10 ** 20 - 1])


class RunFrom(AnEnd):
    def test_of_the_example(self):
        self.assertEqual(run_from(ROW, (0, 0), ()), run_out(ROW, ()))
        glass, counts = run_from(ROW, (2, 2), ())
        self.assertEqual(stream_of(ROW, glass), (2, 2))
        self.assertEqual(counts[0], 1)
        self.holds(ROW, glass, counts)

    def test_from_a_stream_without_room_at_the_spring(self):
        web = Web(3, ((0, 1, 2, 0), (1, 2, 2, 0)), 0, 2)
        glass, counts = run_from(web, (2, 2), [9])
        self.assertEqual(counts, (0, 0, 0, 0, 0))
        self.assertEqual(glass, moved(web, first_glass_of(web, (2, 2)), ("start", 0)))
        self.holds(web, glass, counts)

    def test_from_a_stream_that_comes_back_from_the_mouth(self):
        web = Web(3, ((0, 1, 3, 4), (1, 2, 2, 5)), 0, 2)
        glass, counts = run_from(web, (-4, -4), ())
        self.assertEqual(stream_of(web, glass), (2, 2))
        self.holds(web, glass, counts)

    def test_drawn_streams(self):
        worths = {}
        for seed in range(120):
            draw = Draw(seed)
            web = drawn_web(draw, many=2 + seed % 8, most_units=(2, 9, 999999)[seed % 3])
            stream = drawn_stream(draw, web)
            choices = drawn_choices(draw)
            glass, counts = run_from(web, stream, choices)
            if seed % 3:
                self.assertEqual((glass, counts), plain_run(web, stream, choices))
            self.holds(web, glass, counts)
            found = "below" if worth(web, stream) < 0 else "above" if worth(web, stream) else "none"
            worths[found] = worths.get(found, 0) + 1
        self.assertTrue(min(worths.values()) > 5 and len(worths) == 3, worths)

    def test_in_all_orders(self):
        for seed in range(30):
            draw = Draw(seed)
            web = drawn_web(draw, many=2 + seed % 6, most_units=9, shape=("some", "all")[seed % 2])
            stream = drawn_stream(draw, web)
            for pick in orders(draw).values():
                world = World(web, stream)
                choices = []
                while world.moves():
                    move = pick(world.glass(), world.moves())
                    choices.append(world.moves().index(move))
                    world.do(move)
                glass, counts = run_from(web, stream, tuple(choices))
                self.assertEqual((glass, counts), (world.glass(), tuple(world.counts.values())))
                self.holds(web, glass, counts)

    def test_no_stream_comes_first(self):
        for thing in [(1, 2), (3, 3), (0,), [0, 0], (True, True), (0, False), *odd_things()]:
            with self.subTest(repr(thing)[:60]):
                self.assertRaises(NoStream, run_from, ROW, thing, ())
                self.assertRaises(NoStream, run_from, ROW, thing, None)
                self.assertRaises(NoStream, run_from, ROW, thing, (True,))

    def test_no_choices(self):
        for choices, index in ((None, -1), ("", -1), ({}, -1), ((0, True), 1), ([-1], 0), ((0, 0, (0,)), 2)):
            with self.assertRaises(NoChoices) as caught:
                run_from(ROW, (2, 2), choices)
            self.assertEqual(caught.exception.index, index)
        self.assertEqual(run_from(BARE, (), []), run_out(BARE, ()))


class StreamOf(unittest.TestCase):
    def test_of_first_glasses(self):
        self.assertEqual(stream_of(ROW, first_glass(ROW)), (0, 0))
        self.assertEqual(stream_of(BARE, first_glass(BARE)), ())
        for seed in range(60):
            draw = Draw(seed)
            web = drawn_web(draw)
            stream = drawn_stream(draw, web)
            self.assertEqual(stream_of(web, first_glass_of(web, stream)), stream)

    def test_what_the_lesser_ends_tell_even_if_it_is_no_stream(self):
        glass = moved(ROW, first_glass(ROW), ("start", 0))
        self.assertEqual(stream_of(ROW, glass), (3, 0))
        glass = ((("awake", 3, 0, (3,), (0,), (0,)), ("awake", 0, 0, (0, -1), (0, 0), (0, 0)),
                  ("awake", 0, 0, (-2,), (0,), (0,))), ())
        web = Web(3, ((0, 1, 3, 0), (1, 2, 2, 1)), 0, 2)
        self.assertEqual(stream_of(web, glass), (3, -1))

    def test_ties_in_their_order(self):
        web = Web(4, ((0, 1, 9, 9), (0, 2, 9, 9), (0, 3, 9, 9), (1, 3, 9, 9), (2, 3, 9, 9)), 3, 0)
        states = (("awake", 0, 0, (1, 2, 3), (0, 0, 0), (0, 0, 0)), ("awake", 0, 0, (7, 4), (0, 0), (0, 0)),
                  ("awake", 0, 0, (7, 5), (0, 0), (0, 0)), ("awake", 4, 0, (8, 8, 8), (0, 0, 0), (0, 0, 0)))
        self.assertEqual(stream_of(web, (states, ())), (1, 2, 3, 4, 5))

    def test_no_glass(self):
        good = first_glass(ROW)
        for thing in [good[0], (good[0], None), list(good), part_of(good, 0, good[0][:2]), *odd_things()]:
            with self.subTest(repr(thing)[:60]):
                self.assertRaises(NoGlass, stream_of, ROW, thing)
        self.assertRaises(NoGlass, stream_of, BARE, good)


class Bounds(unittest.TestCase):
    def test_of_the_example(self):
        self.assertEqual(bounds(ROW), (1, 197, 177, 20, 20))

    def test_without_ties(self):
        self.assertEqual(bounds(Web(2, (), 0, 1)), (0, 0, 0, 0, 0))
        self.assertEqual(bounds(BARE), (0, 152, 152, 0, 0))

    def test_of_all_ties(self):
        web = Web(10, tuple((a, b, 1, 1) for a in range(10) for b in range(a + 1, 10)), 3, 4)
        self.assertEqual(bounds(web), (9, 52352, 50642, 1710, 1710))

    def test_ties_that_let_nothing_through_count(self):
        self.assertEqual(bounds(SHUT), (2, 542, 500, 42, 42))
        self.assertEqual(bounds(SHUT)[0], len(neighbours(SHUT, 0)))

    def test_drawn(self):
        for seed in range(60):
            web = drawn_web(Draw(seed))
            n, t = web.many, len(web.ties)
            highest = 2 * n - 1
            pours, pushes, yeses, noes, rises = bounds(web)
            self.assertEqual(pours, sum(web.spring in tie[:2] for tie in web.ties))
            self.assertEqual((noes, rises), (highest * 2 * t, highest * 2 * t))
            self.assertEqual(yeses, 2 * t * n + highest * ((n - 2) + 2 * n * t + 2 * t * highest))
            self.assertEqual(pushes, yeses + noes)


if __name__ == "__main__":
    unittest.main()

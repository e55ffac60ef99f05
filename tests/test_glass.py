"""[3.1]: glasses by their form, first glasses, what can be next, and the glass behind a move."""
import unittest

from moststream.errors import NoGlass, NoMove, NoStream
from moststream.glass import first_glass, first_glass_of, is_glass, moved, moves
from moststream.states import begun, is_state
from moststream.streams import worth
from moststream.webs import Web
from tests.drawn import Draw, drawn_stream, drawn_web, odd_things, orders, part_of
from tests.plain import around, gains
from tests.worlds import World

ROW = Web(3, ((0, 1, 3, 0), (1, 2, 2, 0)), 0, 2)
STATES = tuple(begun(ROW, house) for house in range(3))
WAYS = ((0, 1, (("pour", 3),)), (1, 0, (("rise", 1), ("no", 0))), (2, 1, (("yes",),)))
BARE = Web(10, (), 3, 8)


class Forms(unittest.TestCase):
    def holds(self, *ways):
        return is_glass(ROW, (STATES, ways))

    def test_good_ones(self):
        self.assertIs(self.holds(), True)
        self.assertIs(self.holds(*WAYS), True)
        self.assertIs(self.holds((1, 2, (("push", 1, 0),) * 30)), True)
        self.assertIs(is_glass(ROW, ((("awake", 999, 77, (3,), (999,), (3,)), *STATES[1:]), ())), True)
        self.assertIs(is_glass(BARE, (tuple(begun(BARE, house) for house in range(10)), ())), True)

    def test_by_form_alone(self):
        # A yes where nothing is sent, a pour of more than there is room for: by form they are words on their way.
        self.assertIs(self.holds((2, 1, (("yes",), ("pour", 10 ** 9 - 1), ("pour", 1)))), True)

    def test_ways_ascend_each_once(self):
        self.assertIs(self.holds(*WAYS[::-1]), False)
        self.assertIs(self.holds(WAYS[0], WAYS[2], WAYS[1]), False)
        self.assertIs(self.holds(WAYS[0], WAYS[0]), False)
        self.assertIs(self.holds((0, 1, (("pour", 3),)), (0, 1, (("rise", 3),))), False)

    def test_ways_are_of_neighbours(self):
        word = (("rise", 1),)
        for one, other, due in ((0, 1, True), (1, 0, True), (0, 2, False), (2, 0, False), (1, 1, False),
                                (0, 3, False), (3, 2, False), (-1, 0, False), (1, -1, False), (0, 10 ** 19, False)):
            with self.subTest((one, other)):
                self.assertIs(self.holds((one, other, word)), due)
        for one, other in ((False, 1), (0, True), (True, 2), (1, False), ("0", 1), (0, None), ((0,), 1), (0, [1])):
            with self.subTest((one, other)):
                self.assertIs(self.holds((one, other, word)), False)

    def test_words_are_a_tuple_that_is_not_empty(self):
        for words in ((), [], [("rise", 1)], ("rise", 1), (("rise", 1), None), (("rise", 1000),), (("rise", True),),
                      (["rise", 1],), None, "yes", {("yes",): 1}, (("yes",), ("pour", 0)), (("start",),), (1,)):
            with self.subTest(repr(words)):
                self.assertIs(self.holds((0, 1, words)), False)

    def test_a_way_is_a_triple(self):
        for way in ((0, 1), (0, 1, (("yes",),), 0), [0, 1, (("yes",),)], (), None, 0, "way", {0: 1}):
            with self.subTest(repr(way)):
                self.assertIs(self.holds(way), False)

    def test_a_pair_of_tuples(self):
        for thing in ((STATES,), (STATES, (), ()), [STATES, ()], (list(STATES), ()), (STATES, []), (STATES, {}),
                      (STATES, None), (STATES, list(WAYS)), (), STATES, None, ((), ()), {STATES: ()}):
            with self.subTest(repr(thing)[:60]):
                self.assertIs(is_glass(ROW, thing), False)

    def test_a_state_of_each_house(self):
        for states in (STATES[:2], STATES + STATES[:1], (STATES[1], STATES[0], STATES[2]), (STATES[0],) * 3):
            self.assertIs(is_glass(ROW, (states, ())), False)
        wrong = {0: ("awake", 3, 0, (4,), (0,), (0,)), 1: ("awake", 0, 0, (0,), (0,), (0,)),
                 2: ("awake", 0, True, (0,), (0,), (0,))}
        for house, state in wrong.items():
            self.assertIs(is_state(ROW, house, state), False)
            self.assertIs(is_glass(ROW, (part_of(STATES, house, state), ())), False)

    def test_things_of_all_kinds(self):
        for thing in odd_things():
            with self.subTest(repr(thing)[:60]):
                self.assertIs(is_glass(ROW, thing), False)
                self.assertIs(is_glass(ROW, (thing, ())), False)
                self.assertIs(is_glass(ROW, (STATES, thing)), thing == () and isinstance(thing, tuple))
                self.assertIs(self.holds(thing), False)
                for at in range(3):
                    self.assertIs(is_glass(ROW, (part_of(STATES, at, thing), ())), False)
                    self.assertIs(self.holds(part_of(WAYS[0], at, thing)), False)
                self.assertIs(self.holds((0, 1, (("yes",), thing))), False)


class FirstGlasses(unittest.TestCase):
    def test_of_the_example(self):
        self.assertEqual(first_glass(ROW), (STATES, ()))
        self.assertEqual(first_glass_of(ROW, (0, 0)), (STATES, ()))
        self.assertEqual(first_glass_of(ROW, (2, 2)), ((
            ("asleep", 3, -2, (2,), (0,), (0,)), ("asleep", 0, 0, (-2, 2), (3, 0), (0, 0)),
            ("awake", 0, 2, (-2,), (0,), (0,))), ()))

    def test_those_without_room_are_awake(self):
        web = Web(3, ((0, 1, 2, 0), (1, 2, 2, 0)), 0, 2)
        self.assertEqual([state[0] for state in first_glass(web)[0]], ["asleep", "asleep", "awake"])
        self.assertEqual([state[0] for state in first_glass_of(web, (2, 2))[0]], ["asleep", "awake", "awake"])
        # The mouth is tied to the spring, which has room to it only where units come back.
        web = Web(2, ((0, 1, 0, 4),), 0, 1)
        self.assertEqual(first_glass(web)[0][1], ("awake", 0, 0, (0,), (2,), (0,)))
        self.assertEqual(first_glass_of(web, (-4,)), ((
            ("asleep", 2, 4, (-4,), (0,), (0,)), ("asleep", 0, -4, (4,), (2,), (0,))), ()))

    def test_drawn(self):
        for seed in range(80):
            draw = Draw(seed)
            web = drawn_web(draw)
            stream = drawn_stream(draw, web)
            self.assertEqual(first_glass(web), World(web).glass())
            glass = first_glass_of(web, stream)
            self.assertEqual(glass, World(web, stream).glass())
            self.assertEqual([state[2] for state in glass[0]], gains(web, stream))
            self.assertEqual(glass[0][web.mouth][2], worth(web, stream))
            self.assertIs(is_glass(web, glass), True)
            self.assertIs(is_glass(web, first_glass(web)), True)

    def test_no_stream(self):
        for thing in [(2, 1), (3, 3), (2,), (2, 2, 0), [2, 2], (True, True), (0, False), *odd_things()]:
            with self.subTest(repr(thing)[:60]):
                self.assertRaises(NoStream, first_glass_of, ROW, thing)

    def test_a_web_without_ties(self):
        self.assertEqual(first_glass_of(BARE, ()), first_glass(BARE))
        self.assertEqual(first_glass(BARE)[0][3], ("asleep", 10, 0, (), (), ()))
        self.assertRaises(NoStream, first_glass_of, BARE, (0,))


class Moves(unittest.TestCase):
    def test_the_start_and_the_ways(self):
        self.assertEqual(moves(ROW, (STATES, ())), (("start", 0),))
        self.assertEqual(moves(ROW, (STATES, WAYS)),
                         (("start", 0), ("take", 0, 1), ("take", 1, 0), ("take", 2, 1)))
        awake = (("awake", *STATES[0][1:]), *STATES[1:])
        self.assertEqual(moves(ROW, (awake, WAYS)), (("take", 0, 1), ("take", 1, 0), ("take", 2, 1)))
        self.assertEqual(moves(ROW, (awake, ())), ())
        self.assertEqual(moves(BARE, first_glass(BARE)), (("start", 3),))

    def test_step_by_step(self):
        glass = first_glass(ROW)
        told = []
        for move in (("start", 0), ("take", 0, 1), ("take", 1, 2), ("take", 1, 0), ("take", 1, 2)):
            self.assertIn(move, moves(ROW, glass))
            glass = moved(ROW, glass, move)
            told.append(glass[1])
        push, rise = ("push", 2, 1), ("rise", 1)
        self.assertEqual(told, [((0, 1, (("pour", 3),)),), ((1, 0, (rise,)), (1, 2, (rise, push))),
                                ((1, 0, (rise,)), (1, 2, (push,))), ((1, 2, (push,)),), ((2, 1, (("yes",),)),)])
        self.assertEqual(glass[0], (("awake", 3, -3, (3,), (1,), (0,)), ("awake", 1, 1, (-3, 2), (3, 0), (0, 2)),
                                    ("awake", 0, 2, (-2,), (1,), (0,))))

    def test_against_a_plain_world(self):
        for seed in range(36):
            draw = Draw(seed)
            web = drawn_web(draw, many=2 + seed % 6, most_units=(2, 9, 99)[seed % 3])
            stream = drawn_stream(draw, web) if seed % 2 else None
            glass = first_glass_of(web, stream) if stream else first_glass(web)
            world = World(web, stream)
            pick = orders(draw)[("least", "last", "drawn", "drawn", "pours late")[seed % 5]]
            while world.moves():
                self.assertEqual(moves(web, glass), world.moves())
                move = pick(glass, world.moves())
                world.do(move)
                glass = moved(web, glass, move)
                self.assertEqual(glass, world.glass())
            self.assertEqual(moves(web, glass), ())
            self.assertIs(is_glass(web, glass), True)

    def test_no_move(self):
        glass = (STATES, ((0, 1, (("pour", 3),)),))
        wrong = [("start", 1), ("start", 2), ("start", 3), ("start", False), ("start",), ("start", 0, 1), ("take", 0),
                 ("take", 1, 0), ("take", 0, 2), ("take", 0, 1, 0), ("take", 0, True), ("take", False, 1),
                 ("take", False, True), ["start", 0], ["take", 0, 1], ("Start", 0), (b"start", 0), ("take", 0, 1, ()),
                 ("take", (0, 1)), ("take", "0", "1"), ("still", 1), "start",
                 ("take", 0, 1, ("pour", 3)), *odd_things()]
        for thing in wrong:
            with self.subTest(repr(thing)[:60]):
                self.assertRaises(NoMove, moved, ROW, glass, thing)
        for thing in odd_things():
            if thing != 0 or isinstance(thing, bool):
                self.assertRaises(NoMove, moved, ROW, glass, ("start", thing))
            self.assertRaises(NoMove, moved, ROW, glass, (thing, 0))
            self.assertRaises(NoMove, moved, ROW, glass, ("take", 0, thing))
            self.assertRaises(NoMove, moved, ROW, glass, ("take", thing, 1))

    def test_a_start_only_while_the_spring_is_asleep(self):
        glass = moved(ROW, first_glass(ROW), ("start", 0))
        self.assertRaises(NoMove, moved, ROW, glass, ("start", 0))
        self.assertRaises(NoMove, moved, BARE, moved(BARE, first_glass(BARE), ("start", 3)), ("start", 3))

    def test_a_word_that_is_none_then(self):
        for way, due in (((1, 0, (("rise", 1),)), "the spring is asleep"), ((0, 1, (("pour", 4),)), "no room"),
                         ((2, 1, (("pour", 1),)), "not of the spring"), ((2, 1, (("yes",),)), "nothing is sent"),
                         ((1, 2, (("push", 3, 1),)), "no room"), ((2, 1, (("no", 1),)), "nothing is sent")):
            with self.subTest(due):
                glass = (STATES, (way,))
                self.assertEqual(moves(ROW, glass), (("start", 0), ("take", *way[:2])))
                self.assertRaises(NoMove, moved, ROW, glass, ("take", *way[:2]))
                self.assertEqual(glass, (STATES, (way,)))

    def test_only_the_first_word_is_heard(self):
        glass = (STATES, ((1, 2, (("rise", 5), ("pour", 1))),))
        behind = moved(ROW, glass, ("take", 1, 2))
        self.assertEqual(behind, ((*STATES[:2], ("awake", 0, 0, (0,), (5,), (0,))), ((1, 2, (("pour", 1),)),)))
        self.assertRaises(NoMove, moved, ROW, behind, ("take", 1, 2))

    def test_what_is_sent_stands_behind_what_is_on_its_way(self):
        web = Web(3, ((0, 1, 9, 9), (1, 2, 9, 9)), 0, 2)
        states = (("awake", 3, 0, (0,), (0,), (0,)), ("awake", 0, 0, (0, 0), (3, 0), (0, 0)), begun(web, 2))
        glass = (states, ((0, 1, (("push", 2, 3),)), (1, 0, (("rise", 0),)), (1, 2, (("rise", 7),))))
        self.assertEqual(moved(web, glass, ("take", 0, 1))[1],
                         ((1, 0, (("rise", 0), ("no", 0))), (1, 2, (("rise", 7),))))

    def test_no_glass(self):
        for thing in [(STATES,), (STATES[:2], ()), [STATES, ()], (STATES, WAYS[::-1]), *odd_things()]:
            with self.subTest(repr(thing)[:60]):
                self.assertRaises(NoGlass, moves, ROW, thing)
                self.assertRaises(NoGlass, moved, ROW, thing, ("start", 0))
                # Named first: NoGlass, even if the move is none either.
                self.assertRaises(NoGlass, moved, ROW, thing, None)
        self.assertRaises(NoGlass, moves, BARE, (STATES, ()))

    def test_what_is_passed_stays(self):
        for seed in range(10):
            draw = Draw(seed)
            web = drawn_web(draw, many=5, shape="all")
            glass, same = first_glass(web), World(web).glass()
            for move in moves(web, glass):
                moved(web, glass, move)
            self.assertEqual(glass, same)
            self.assertEqual(around(web, 0), [1, 2, 3, 4])


if __name__ == "__main__":
    unittest.main()

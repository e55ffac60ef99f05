"""[3.2]: the sums, each broken alone, several at once, and none of them broken in any run."""
import unittest

from moststream.errors import NoGlass
from moststream.glass import broken, first_glass, first_glass_of, is_glass, moved, moves
from moststream.webs import Web
from tests.drawn import Draw, drawn_stream, drawn_web, odd_things, orders, part_of
from tests.worlds import plain_broken

# The spring 0, house 1 between, the mouth 2; ties that let nine units through, either way.
ROW = Web(3, ((0, 1, 9, 9), (1, 2, 9, 9)), 0, 2)
SPRING = ("awake", 3, -5, (5,), (0,), (0,))
BETWEEN = ("awake", 0, 5, (-5, 0), (3, 0), (0, 0))
MOUTH = ("awake", 0, 0, (0,), (0,), (0,))
WORDS = ("houses", "ties", "sent", "beliefs", "heights", "most")


def glass(spring=SPRING, between=BETWEEN, mouth=MOUTH, ways=()):
    made = ((spring, between, mouth), ways)
    assert is_glass(ROW, made)
    return made


# House 0 has room to 1 as long as this is not full, so it may be one higher at most.
FULL = ("awake", 3, -9, (9,), (0,), (0,))
LOW = ("awake", 0, 9, (-9, 0), (3, 0), (0, 0))


class OneAtATime(unittest.TestCase):
    def only(self, word, made):
        self.assertEqual(broken(ROW, made), (word,) if word else ())
        self.assertEqual(plain_broken(ROW, made), (word,) if word else ())

    def test_none(self):
        self.only(None, glass(FULL, LOW))
        self.only(None, first_glass(ROW))
        self.only(None, first_glass_of(ROW, (4, 4)))

    def test_houses(self):
        self.only("houses", glass(FULL, part_of(LOW, 2, 8)))
        self.only("houses", glass(part_of(FULL, 2, 9), LOW))
        self.only("houses", glass(FULL, LOW, part_of(MOUTH, 2, -1)))

    def test_ties(self):
        # The spring says that nine units went, the house that eight came, and none are on their way.
        eight = ("awake", 0, 8, (-8, 0), (3, 0), (0, 0))
        self.only("ties", glass(FULL, eight))
        self.only("ties", glass(FULL, LOW, ways=((0, 1, (("pour", 1),)),)))
        self.only("ties", glass(FULL, eight, ways=((0, 1, (("pour", 2),)),)))
        self.only(None, glass(FULL, eight, ways=((0, 1, (("pour", 1),)),)))
        self.only(None, glass(FULL, eight, ways=((1, 0, (("pour", 1),)),)))

    def test_ties_with_a_push_on_its_way(self):
        between = ("awake", 1, 5, (-9, 4), (3, 0), (0, 4))
        push = ((1, 2, (("rise", 1), ("push", 4, 1))),)
        self.only(None, glass(FULL, between, ways=push))
        self.only("ties", glass(FULL, between, part_of(part_of(MOUTH, 3, (-4,)), 2, 4), ways=push))

    def test_ties_with_a_no_on_its_way(self):
        between = ("awake", 1, 5, (-9, 4), (3, 0), (0, 4))
        self.only(None, glass(FULL, between, ways=((2, 1, (("no", 0),)),)))
        taken = part_of(part_of(MOUTH, 3, (-4,)), 2, 4)
        self.only("ties", glass(FULL, between, taken, ways=((2, 1, (("no", 0),)),)))
        self.only("ties", glass(FULL, between, ways=((2, 1, (("yes",),)),)))
        self.only(None, glass(FULL, between, taken, ways=((2, 1, (("yes",),)),)))

    def test_ties_count_what_is_sent_once_for_each_way_with_a_no(self):
        between = ("awake", 1, 5, (-9, 4), (3, 0), (0, 4))
        # Two noes on one way: there is more than one answer, but what was sent counts once.
        self.only("sent", glass(FULL, between, ways=((2, 1, (("no", 0), ("no", 0))),)))
        # Noes both ways: what each end has sent counts.
        mouth = ("awake", 0, -2, (2,), (1,), (2,))
        both = ((1, 2, (("no", 1),)), (2, 1, (("no", 0),)))
        self.only(None, glass(FULL, between, mouth, ways=both))
        self.only("ties", glass(FULL, between, ("awake", 0, -1, (1,), (1,), (2,)), ways=both))

    def test_sent(self):
        for sent, ways in ((4, ()), (3, ((1, 2, (("push", 4, 1),)),)), (0, ((1, 2, (("push", 4, 1),)),)),
                           (0, ((2, 1, (("yes",),)),)), (0, ((2, 1, (("no", 0),)),))):
            with self.subTest(sent=sent, ways=ways):
                there = 4 if "push" in str(ways) else 0
                between = ("awake", 1, 9 - there, (-9, there), (3, 0), (0, sent))
                self.only("sent", glass(FULL, between, ways=ways))

    def test_sent_never_more_than_one(self):
        # A push with its own answer, two pushes, two answers, though each alone would do.
        self.only("sent", glass(FULL, ("awake", 1, 5, (-9, 4), (3, 0), (0, 4)),
                                ways=((1, 2, (("push", 4, 1),)), (2, 1, (("yes",),)))))
        self.only("sent", glass(FULL, ("awake", 1, 1, (-9, 8), (3, 0), (0, 4)),
                                ways=((1, 2, (("push", 4, 1), ("push", 4, 1))),)))
        self.only("sent", glass(FULL, ("awake", 1, 5, (-9, 4), (3, 0), (0, 4)), ("awake", 0, 4, (-4,), (0,), (0,)),
                                ways=((2, 1, (("yes",), ("yes",))),)))

    def test_sent_looks_the_right_way(self):
        # The answer of the mouth is for house 1, what the mouth has sent is another thing.
        mouth = ("awake", 0, 0, (0,), (0,), (4,))
        self.only("sent", glass(FULL, LOW, mouth, ways=((2, 1, (("yes",),)),)))
        self.only(None, glass(FULL, LOW, mouth, ways=((1, 2, (("yes",),)),)))

    def test_beliefs(self):
        self.only("beliefs", glass(FULL, part_of(LOW, 4, (4, 0))))
        self.only("beliefs", glass(FULL, part_of(LOW, 4, (3, 1))))
        self.only("beliefs", glass(part_of(FULL, 4, (1,)), LOW))
        self.only(None, glass(part_of(FULL, 4, (1,)), part_of(LOW, 1, 1)))
        self.only(None, glass(FULL, part_of(LOW, 4, (0, 0))))

    def test_heights(self):
        self.only("heights", glass(FULL, part_of(LOW, 1, 2)))
        self.only(None, glass(FULL, part_of(LOW, 1, 1)))
        # Without room a house may be as high as it is.
        full = ("awake", 2, 0, (-9, 9), (3, 0), (0, 0))
        self.only(None, glass(FULL, full, ("awake", 0, 9, (-9,), (0,), (0,))))
        # The spring has room for one unit more, and is three higher.
        self.only("heights", glass(("awake", 3, -8, (8,), (0,), (0,)), ("awake", 0, 8, (-8, 0), (3, 0), (0, 0))))
        self.only(None, glass(("awake", 3, -8, (8,), (0,), (0,)), ("awake", 2, -1, (-8, 9), (3, 0), (0, 0)),
                              ("awake", 0, 9, (-9,), (0,), (0,))))

    def test_heights_hold_while_the_spring_is_asleep(self):
        asleep = ("asleep", 3, 0, (0,), (0,), (0,))
        self.only(None, glass(asleep, ("asleep", 5, 0, (0, 0), (3, 0), (0, 0))))
        self.only("heights", glass(part_of(asleep, 0, "awake"), ("asleep", 2, 0, (0, 0), (3, 0), (0, 0))))

    def test_most(self):
        high = part_of(SPRING, 1, 5), part_of(BETWEEN, 1, 5), part_of(MOUTH, 1, 5)
        self.only(None, glass(*high))
        self.only("most", glass(*[part_of(state, 1, 6) for state in high]))
        self.only("most", glass(high[0], part_of(high[1], 1, 6), high[2]))
        self.only("most", glass(part_of(high[0], 1, 6), *high[1:]))


class SeveralAtOnce(unittest.TestCase):
    def test_all(self):
        made = glass(("awake", 999, 1, (5,), (7,), (1,)), BETWEEN, ("awake", 0, 0, (1,), (0,), (0,)))
        self.assertEqual(broken(ROW, made), WORDS)

    def test_in_their_order(self):
        self.assertEqual(broken(ROW, glass()), ("heights",))
        self.assertEqual(broken(ROW, glass(ways=((0, 1, (("push", 1, 1),)),))), ("ties", "sent", "heights"))
        self.assertEqual(broken(ROW, glass(part_of(FULL, 1, 6), part_of(LOW, 2, 0))), ("houses", "most"))
        self.assertEqual(broken(ROW, glass(part_of(FULL, 4, (6,)), part_of(LOW, 2, 0))), ("houses", "beliefs"))

    def test_drawn_glasses_with_faults(self):
        found = {}
        for seed in range(1500):
            draw = Draw(seed)
            web = drawn_web(draw, many=draw.among(2, 6), shape=draw.one_of(("some", "all", "row")))
            made = spoiled(draw, web, some_glass(draw, web))
            if is_glass(web, made):
                due = plain_broken(web, made)
                self.assertEqual(broken(web, made), due)
                found[due] = found.get(due, 0) + 1
        self.assertTrue(all((word,) in found for word in WORDS), found)
        self.assertTrue(len(found) > 20, found)


def some_glass(draw, web):
    """A glass amid a drawn run."""
    made = first_glass_of(web, drawn_stream(draw, web))
    for _ in range(draw.below(40)):
        if moves(web, made):
            made = moved(web, made, draw.one_of(moves(web, made)))
    return made


def spoiled(draw, web, made):
    """The glass with one to three numbers or words changed."""
    states, ways = made
    for _ in range(draw.among(1, 3)):
        house = draw.below(web.many)
        state = states[house]
        at = draw.among(1, 6)
        if at < 3:
            state = part_of(state, at, state[at] + draw.one_of((-1, 1, 2, 9)))
        elif at < 6 and state[at]:
            place = draw.below(len(state[at]))
            state = part_of(state, at, part_of(state[at], place, state[at][place] + draw.one_of((-1, 1, 5))))
        elif ways:
            place = draw.below(len(ways))
            one, other, words = ways[place]
            word = draw.one_of((("yes",), ("no", 0), ("rise", 1), ("pour", 1), ("push", 1, 1), words[0]))
            ways = part_of(ways, place, (one, other, draw.one_of((words + (word,), (word,)))))
        states = part_of(states, house, state)
    return states, ways


class Errors(unittest.TestCase):
    def test_no_glass(self):
        far = (glass()[0], ((0, 2, (("yes",),)),))
        for thing in [(), ((), ()), (glass()[0], None), [*glass()], far, *odd_things()]:
            with self.subTest(repr(thing)[:60]):
                self.assertRaises(NoGlass, broken, ROW, thing)


class TheFactOfSums(unittest.TestCase):
    def holds(self, web, made, pick, most_moves=10 ** 6):
        done = 0
        self.assertEqual(broken(web, made), ())
        while moves(web, made) and done < most_moves:
            made = moved(web, made, pick(made, moves(web, made)))
            self.assertEqual(broken(web, made), ())
            self.assertIs(is_glass(web, made), True)
            done += 1
        return done

    def test_drawn_webs_in_all_orders(self):
        done = 0
        for seed in range(48):
            draw = Draw(seed)
            web = drawn_web(draw, many=2 + seed % 6, most_units=(1, 9, 999999)[seed % 3])
            for pick in orders(draw).values():
                done += self.holds(web, first_glass(web), pick)
        self.assertTrue(done > 4000, done)

    def test_drawn_streams_in_all_orders(self):
        done = 0
        for seed in range(48):
            draw = Draw(seed)
            web = drawn_web(draw, many=2 + seed % 6, most_units=(2, 9, 999)[seed % 3])
            for pick in orders(draw).values():
                done += self.holds(web, first_glass_of(web, drawn_stream(draw, web)), pick)
        self.assertTrue(done > 4000, done)

    def test_the_largest_webs(self):
        for seed, name in enumerate(("least", "last", "drawn", "pours late")):
            draw = Draw(seed)
            web = drawn_web(draw, many=10, most_units=99, shape="all")
            self.assertTrue(self.holds(web, first_glass(web), orders(draw)[name], 600) > 20)

    def test_the_plain_reading_finds_none_either(self):
        for seed in range(20):
            draw = Draw(seed)
            web = drawn_web(draw, many=4, shape="all")
            made = first_glass(web)
            while moves(web, made):
                self.assertEqual(plain_broken(web, made), ())
                made = moved(web, made, draw.one_of(moves(web, made)))

    def test_webs_without_ties_and_ties_that_let_nothing_through(self):
        for web in (Web(2, (), 0, 1), Web(10, (), 9, 0), Web(2, ((0, 1, 0, 0),), 1, 0),
                    Web(4, ((0, 1, 0, 0), (0, 3, 0, 0), (1, 2, 5, 0)), 0, 3)):
            made = first_glass(web)
            self.assertEqual(self.holds(web, made, lambda glass, can: can[0]), 1)


if __name__ == "__main__":
    unittest.main()

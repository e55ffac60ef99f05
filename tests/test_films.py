"""[10.3] and [10.4]: reels that seek there and back, and pictures, row by row."""
import unittest

from moststream.errors import BadMoves, NoGlass, NoMoment, NoNumber, NoStream
from moststream.films import Reel, drawn, drawn_heights, drawn_stream
from moststream.glass import first_glass, first_glass_of, moved
from moststream.webs import Web
from tests.drawn import Draw, drawn_stream as stream_drawn, drawn_web, odd_things, orders, part_of
from tests.drawn_posts import drawn_lively_web
from tests.plain import around, tie_of
from tests.test_posts import BAR, WEB
from tests.worlds import World

MOVES = (("start", 0), ("take", 0, 1), ("take", 1, 0), ("take", 1, 2), ("take", 1, 2), ("take", 2, 1), ("take", 1, 0),
         ("take", 1, 0), ("take", 0, 1), ("take", 1, 2))
LONE = Web(2, (), 0, 1)


def drawn_run(draw, web, limit=10 ** 9, order=None):
    """The pair of the moves of a run, in a drawn order if none is told, and the glasses behind so many of them."""
    world = World(web)
    order = order or draw.one_of(list(orders(draw).values()))
    run, glasses = [], [world.glass()]
    while world.moves() and len(run) < limit:
        run.append(order(world.glass(), world.moves()))
        world.do(run[-1])
        glasses.append(world.glass())
    return tuple(run), glasses


def stands(reel):
    return reel.stands(), reel.worked(), reel.kept(), reel.glass_there()


class PlainReel:
    """[10.3], with all glasses at hand."""

    def __init__(self, glasses, every):
        self.glasses, self.every = glasses, every
        self.at, self.work, self.keeps = 0, 0, {0}

    def seek(self, at):
        below = [number for number in (*self.keeps, self.at) if number <= at]
        self.work = at - max(below)
        self.keeps.update(number for number in range(max(below) + 1, at + 1) if number % self.every == 0)
        self.at = at

    def stands(self):
        return self.at, self.work, tuple(sorted(self.keeps)), self.glasses[self.at]


class Reels(unittest.TestCase):
    def test_begins_behind_none(self):
        for moves in ((), [], MOVES, list(MOVES)):
            self.assertEqual(stands(Reel(WEB, moves, 3)), (0, 0, (0,), first_glass(WEB)))
        self.assertEqual(stands(Reel(LONE, (("start", 0),), 1)), (0, 0, (0,), first_glass(LONE)))

    def test_seeks(self):
        reel = Reel(WEB, MOVES, 3)
        for at, worked, kept in ((2, 2, (0,)), (2, 0, (0,)), (3, 1, (0, 3)), (2, 2, (0, 3)), (8, 5, (0, 3, 6)),
                                 (7, 1, (0, 3, 6)), (10, 3, (0, 3, 6, 9)), (10, 0, (0, 3, 6, 9)), (0, 0, (0, 3, 6, 9)),
                                 (5, 2, (0, 3, 6, 9)), (9, 0, (0, 3, 6, 9)), (8, 2, (0, 3, 6, 9))):
            self.assertIsNone(reel.seek(at))
            self.assertEqual((reel.stands(), reel.worked(), reel.kept()), (at, worked, kept))

    def test_glasses_are_those_of_the_moves(self):
        glass, glasses = first_glass(WEB), [first_glass(WEB)]
        for move in MOVES:
            glass = moved(WEB, glass, move)
            glasses.append(glass)
        for every in (1, 2, 3, 10, 11, 500):
            reel = Reel(WEB, MOVES, every)
            for at in (10, 0, 1, 9, 4, 4, 10, 3):
                reel.seek(at)
                self.assertEqual(reel.glass_there(), glasses[at])

    def test_drawn_seeks(self):
        for seed in range(60):
            draw = Draw(seed)
            web = drawn_lively_web(draw)
            run, glasses = drawn_run(draw, web, 120)
            every = draw.one_of((1, 2, 3, 7, 20, 500))
            reel, plain = Reel(web, draw.one_of((list, tuple))(run), every), PlainReel(glasses, every)
            greatest = 0
            for _ in range(40):
                at = draw.one_of((0, len(run), draw.below(len(run) + 1), draw.below(len(run) + 1)))
                reel.seek(at)
                plain.seek(at)
                self.assertEqual(stands(reel), plain.stands())
                if at <= greatest:
                    self.assertLess(reel.worked(), every)
                greatest = max(greatest, at)
                if draw.below(9) == 0:
                    reel = reel.copy()

    def test_no_moment(self):
        reel = Reel(WEB, MOVES, 4)
        reel.seek(9)
        before = stands(reel)
        for thing in [11, -1, 10 ** 19, True, False, None, "1", (1,), [1], *odd_things()]:
            with self.subTest(repr(thing)[:60]):
                self.assertRaises(NoMoment, reel.seek, thing)
                self.assertEqual(stands(reel), before)
        self.assertRaises(NoMoment, Reel(WEB, (), 1).seek, 1)
        self.assertIsNone(Reel(WEB, (), 1).seek(0))
        self.assertIsNone(Reel(WEB, MOVES[:1], 1).seek(1))
        self.assertRaises(NoMoment, Reel(WEB, MOVES[:1], 1).seek, 2)

    def test_every_from_1_to_500(self):
        for every in (1, 2, 499, 500):
            self.assertEqual(Reel(WEB, MOVES, every).kept(), (0,))
        for thing in [0, 501, -1, 10 ** 19, True, False, None, "1", (1,), [1], *odd_things()]:
            with self.subTest(repr(thing)[:60]):
                self.assertRaises(NoNumber, Reel, WEB, MOVES, thing)
                self.assertRaises(NoNumber, Reel, WEB, [], thing)

    def test_every_500_of_a_long_run(self):
        draw = Draw(155)
        web = drawn_web(draw, many=10, most_units=draw.one_of((9, 99, 9999)), shape=draw.one_of(("all", "some")))
        run, glasses = drawn_run(draw, web, order=orders(draw)["least"])
        self.assertGreater(len(run), 1000)
        reel = Reel(web, run, 500)
        reel.seek(1000)
        self.assertEqual(stands(reel), (1000, 1000, (0, 500, 1000), glasses[1000]))
        reel.seek(999)
        self.assertEqual(stands(reel), (999, 499, (0, 500, 1000), glasses[999]))
        reel.seek(len(run))
        self.assertEqual(reel.worked(), len(run) - 1000)

    def bad(self, moves, index):
        for every in (3, 0, None):
            with self.assertRaises(BadMoves) as raised:
                Reel(WEB, moves, every)
            self.assertEqual(raised.exception.index, index)

    def test_bad_moves(self):
        for index in range(len(MOVES) + 1):
            for bad in (("start", 0) if index else ("take", 0, 1), ("start", 1), ("take", 2, 0), ("take", 0, 9), None,
                        ("start", False), ["start", 0], ("take", 0, True), ("take", 0), (), "start"):
                self.bad((*MOVES[:index], bad, *MOVES[index:]), index)
                self.bad([*MOVES[:index], bad], index)
        self.bad((MOVES[0], *MOVES[2:]), 1)
        self.bad((*MOVES, MOVES[-1]), 10)

    def test_no_list_of_moves(self):
        for thing in odd_things():
            if isinstance(thing, (list, tuple)):
                if len(thing) > 0:
                    self.bad(thing, 0)
            else:
                self.bad(thing, -1)
            self.bad((thing,), 0)
            self.bad([("start", 0), thing], 1)
            self.bad([("start", 0), ("take", thing, 1)], 1)

    def test_copies_go_on_apart(self):
        reel = Reel(WEB, MOVES, 3)
        reel.seek(4)
        other = reel.copy()
        self.assertIs(type(other), Reel)
        self.assertEqual(stands(other), stands(reel))
        before = stands(reel)
        other.seek(10)
        self.assertEqual(other.kept(), (0, 3, 6, 9))
        self.assertEqual(stands(reel), before)
        reel.seek(1)
        self.assertEqual((reel.stands(), other.stands()), (1, 10))
        self.assertRaises(NoMoment, other.seek, 11)
        self.assertEqual(other.copy().copy().kept(), (0, 3, 6, 9))

    def test_what_is_passed_stays_and_is_copied(self):
        moves = list(MOVES)
        reel = Reel(WEB, moves, 2)
        self.assertEqual(moves, list(MOVES))
        moves.clear()
        reel.seek(10)
        self.assertEqual(reel.glass_there()[1], ())


def plain_drawn(web, glass):
    rows = []
    for house, (stage, height, held, streams, beliefs, sent) in enumerate(glass[0]):
        row = [str(house), stage, str(height), str(held)]
        for at, other in enumerate(around(web, house)):
            row.append("{}:{}:{}:{}".format(other, streams[at], beliefs[at], sent[at]))
        rows.append(row)
    for sender, house, words in glass[1]:
        rows.append([str(sender) + ">" + str(house)] + [",".join(map(str, word)) for word in words])
    return "".join(" ".join(row) + "\n" for row in rows)


def plain_heights(web, glass):
    heights = [state[1] for state in glass[0]]
    signs = ["*" if state[2] > 0 else "o" for state in glass[0]]
    signs[web.spring], signs[web.mouth] = "S", "M"
    columns = ["." * height + sign + "." * (max(heights) - height) for height, sign in zip(heights, signs)]
    return "".join("".join(column[height] for column in columns) + "\n" for height in range(max(heights), -1, -1))


def plain_stream(web, stream):
    text = ""
    for (one, other, _, _), units in zip(web.ties, stream):
        if units < 0:
            one, other, units = other, one, -units
        text += f"{one}-{other} {units} of {tie_of(web, one, other)[0]}\n"
    return text


class Pictures(unittest.TestCase):
    def test_of_a_glass(self):
        glass = moved(WEB, moved(WEB, first_glass(WEB), ("start", 0)), ("take", 0, 1))
        self.assertEqual(drawn(WEB, first_glass(WEB)),
                         "0 asleep 3 0 1:0:0:0\n1 asleep 0 0 0:0:3:0 2:0:0:0\n2 awake 0 0 1:0:0:0\n")
        self.assertEqual(drawn(WEB, glass),
                         "0 awake 3 -3 1:3:0:0\n1 awake 1 1 0:-3:3:0 2:2:0:2\n2 awake 0 0 1:0:0:0\n"
                         "1>0 rise,1\n1>2 rise,1 push,2,1\n")
        self.assertEqual(drawn_heights(WEB, glass), "S..\n...\n.*.\n..M\n")
        self.assertEqual(drawn_heights(WEB, first_glass(WEB)), "S..\n...\n...\n.oM\n")
        self.assertEqual(drawn(LONE, first_glass(LONE)), "0 asleep 2 0\n1 awake 0 0\n")

    def test_words_of_each_sort(self):
        words = (("pour", 999999999), ("push", 1, 999), ("yes",), ("no", 0), ("rise", 10))
        glass = (first_glass(WEB)[0], ((0, 1, words), (2, 1, (("yes",), ("yes",)))))
        self.assertEqual(drawn(WEB, glass).split("\n")[3:],
                         ["0>1 pour,999999999 push,1,999 yes no,0 rise,10", "2>1 yes yes", ""])

    def test_of_a_stream(self):
        web = Web(3, ((0, 1, 3, 5), (0, 2, 4, 0), (1, 2, 2, 6)), 0, 2)
        self.assertEqual(drawn_stream(web, (-4, 4, -4)), "1-0 4 of 5\n0-2 4 of 4\n2-1 4 of 6\n")
        self.assertEqual(drawn_stream(web, (0, 0, 0)), "0-1 0 of 3\n0-2 0 of 4\n1-2 0 of 2\n")
        self.assertEqual(drawn_stream(web, (2, 1, 2)), "0-1 2 of 3\n0-2 1 of 4\n1-2 2 of 2\n")
        self.assertEqual(drawn_stream(LONE, ()), "")

    def test_drawn_glasses_and_streams(self):
        for seed in range(60):
            draw = Draw(seed)
            web = drawn_web(draw)
            for glass in drawn_run(draw, web, 80)[1][::4]:
                self.assertEqual(drawn(web, glass), plain_drawn(web, glass))
                self.assertEqual(drawn_heights(web, glass), plain_heights(web, glass))
            stream = stream_drawn(draw, web)
            self.assertEqual(drawn_stream(web, stream), plain_stream(web, stream))
            glass = first_glass_of(web, stream)
            self.assertEqual(drawn(web, glass), plain_drawn(web, glass))
            self.assertEqual(drawn_heights(web, glass), plain_heights(web, glass))

    def test_heights_up_to_999(self):
        states = first_glass(BAR)[0]
        glass = (part_of(states, 1, part_of(part_of(states[1], 1, 999), 2, 1)), ())
        self.assertEqual(drawn_heights(BAR, glass), plain_heights(BAR, glass))
        self.assertEqual(drawn_heights(BAR, glass).split("\n")[0], ".*..")
        self.assertEqual(drawn_heights(BAR, glass).count("\n"), 1000)

    def test_signs_of_what_is_held(self):
        states = first_glass(BAR)[0]
        for held, sign in ((-1, "o"), (0, "o"), (1, "*"), (10 ** 19, "*")):
            glass = (part_of(states, 2, part_of(states[2], 2, held)), ())
            self.assertEqual(drawn_heights(BAR, glass).split("\n")[-2], f".o{sign}M")
        for house, sign in ((0, "S"), (3, "M")):
            glass = (part_of(states, house, part_of(states[house], 2, 5)), ())
            self.assertIn(sign, drawn_heights(BAR, glass))
            self.assertNotIn("*", drawn_heights(BAR, glass))

    def test_no_glass_and_no_stream(self):
        glass = first_glass(WEB)
        for thing in [list(glass), (list(glass[0]), ()), glass[0], (glass[0], [], ()), (glass[0], []), first_glass(BAR),
                      (glass[0], ((0, 1, ()),)), *odd_things()]:
            self.assertRaises(NoGlass, drawn, WEB, thing)
            self.assertRaises(NoGlass, drawn_heights, WEB, thing)
        for thing in [[2, 2], (2,), (2, 1), (4, 4), (True, True), (2, 2, 0), *odd_things()]:
            self.assertRaises(NoStream, drawn_stream, WEB, thing)


if __name__ == "__main__":
    unittest.main()

"""The whole program: a drawn run comes to the greatest stream by every door, and THE MAIN FACT of [0.1] holds."""
import unittest

from moststream.desks import Desk
from moststream.ends import bounds, run_from, run_out, stream_of
from moststream.films import Reel
from moststream.glass import broken, first_glass, moved, moves
from moststream.nets import Net, led_by, settle
from moststream.records import by_least, first_wrong, glass_then, recorded
from moststream.streams import is_paper, is_split, is_stream, most, side_of, split, worth
from moststream.texts import (moves_text, read_moves, read_record, read_split, read_stream, read_web, record_text,
                              split_text, stream_text, web_text)
from tests.drawn import Draw, drawn_stream, drawn_web
from tests.drawn_posts import drawn_lively_web
from tests.plain import least_side
from tests.test_films import drawn_run


class Doors(unittest.TestCase):
    def check_stream(self, web, stream):
        """It is a stream, has a paper, and is worth what a plain search tells."""
        self.assertTrue(is_stream(web, stream))
        self.assertEqual(worth(web, stream), least_side(web))
        self.assertEqual(worth(web, stream), most(web))
        self.assertTrue(is_paper(web, stream, side_of(web, stream)))
        self.assertTrue(is_split(web, stream, split(web, stream)))
        self.assertEqual(read_stream(stream_text(stream)), stream)
        self.assertEqual(read_split(split_text(split(web, stream))), split(web, stream))

    def test_one_run_by_all_doors(self):
        for seed in range(25):
            draw = Draw(seed)
            web = draw.one_of((drawn_lively_web, drawn_web))(draw)
            run, glasses = drawn_run(draw, web)
            end = glasses[-1]
            self.check_stream(web, stream_of(web, end))
            self.assertEqual(end[1], ())
            self.by_moves(web, run, glasses)
            self.by_a_film(web, run, glasses)
            self.by_a_record(web, run, end)
            self.by_a_desk(web, run, end)
            self.by_choices(draw, web)
            self.by_a_net(draw, web)

    def by_moves(self, web, run, glasses):
        glass = first_glass(web)
        for at, move in enumerate(read_moves(moves_text(run))):
            glass = moved(web, glass, move)
            self.assertEqual(glass, glasses[at + 1])
            self.assertEqual(broken(web, glass), ())
        self.assertEqual(moves(web, glass), ())

    def by_a_film(self, web, run, glasses):
        reel = Reel(web, run, 7)
        reel.seek(len(run))
        self.assertEqual(reel.glass_there(), glasses[-1])
        reel.seek(len(run) // 2)
        self.assertEqual(reel.glass_there(), glasses[len(run) // 2])

    def by_a_record(self, web, run, end):
        """The choices that make just this run tell a record that ends as it does, in another order too."""
        choices, glass = [], first_glass(web)
        for move in run:
            choices.append(moves(web, glass).index(move))
            glass = moved(web, glass, move)
        self.assertEqual(run_out(web, choices)[0], end)
        record = recorded(web, choices)
        self.assertIsNone(first_wrong(record))
        self.assertEqual(tuple(event[:3] for event in record.events if event[0] != "still"), run)
        for same in (record, by_least(record), read_record(record_text(record))):
            self.assertEqual(glass_then(same, len(same.events)), end)

    def by_a_desk(self, web, run, end):
        desk = Desk()
        desk.tell("web x " + web_text(web).replace("\n", "|"))
        for move in run:
            desk.tell("start x" if move[0] == "start" else f"take x {move[1]} {move[2]}")
        self.assertEqual(read_moves(desk.tell("done x").replace("|", "\n")), run)
        self.assertEqual((desk.tell("next x"), desk.tell("broken x")), ("none", "none"))
        self.assertEqual(desk.tell("side x"), " ".join(map(str, side_of(web, stream_of(web, end)))))
        desk.tell(f"back x {len(run) // 2}")
        desk.tell("out x")
        self.assertEqual(desk.tell("holds x").split(" ")[web.mouth], desk.tell("most x"))

    def by_choices(self, draw, web):
        choices = [draw.below(100) for _ in range(draw.below(200))]
        for glass, counts in (run_out(web, choices), run_from(web, drawn_stream(draw, web), choices)):
            self.check_stream(web, stream_of(web, glass))
            self.assertTrue(all(many <= most_of for many, most_of in zip(counts, bounds(web))))
            self.assertEqual(counts[1], counts[2] + counts[3])
            self.assertLessEqual(max(state[1] for state in glass[0]), 2 * web.many - 1)

    def by_a_net(self, draw, web):
        net = Net(read_web(web_text(web)))
        ways = [(one, other) for tie in web.ties for one, other in (tie[:2], tie[1::-1])]
        led_by(net, [("start", web.spring)] + [("post", *draw.one_of(ways)) for _ in range(9) if ways])
        while net.bag():
            net.deed((draw.one_of(("bring", "bring", "lose")), draw.below(len(net.bag()))))
            self.assertEqual(broken(web, net.glass()), ())
        settle(net, 100000)
        self.check_stream(web, stream_of(web, net.glass()))


if __name__ == "__main__":
    unittest.main()

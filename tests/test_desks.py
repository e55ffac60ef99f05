"""[10.5]: desks led by lines, each held against what the functions tell."""
import unittest

from moststream.desks import Desk
from moststream.errors import BadRecord, BadText, BadWeb, NoHouse, NoLine, NoMove, NoName, StreamError
from moststream.records import Record, recorded
from moststream.texts import record_text, web_text
from moststream.webs import Web
from tests.drawn import Draw, drawn_choices, drawn_web, odd_things
from tests.drawn_posts import drawn_lively_web
from tests.drawn_records import drawn_events
from tests.plain_desks import PlainDesk
from tests.test_posts import BAR, WEB

WEB_TEXT = "houses 3 0 2|tie 0 1 3 0|tie 1 2 2 0|"
OF_WEB = ("source", "done", "next", "view", "heights", "stream", "steps", "broken", "holds", "most", "side", "bounds")
OF_RECORD = ("events", "wrong", "chain")


def answer_of(desk, line):
    try:
        return desk.tell(line)
    except StreamError as error:
        return (type(error), *vars(error).values())


def stands(desk, webs=("a", "b"), records=("a", "b")):
    """All that a desk tells of some names."""
    return [answer_of(desk, f"{word} {name}") for name in webs for word in OF_WEB] + \
        [answer_of(desk, f"{word} {name}") for name in records for word in OF_RECORD]


def desk_with(*lines):
    desk = Desk()
    for line in lines:
        assert desk.tell(line) == "ok", line
    return desk


class Lines(unittest.TestCase):
    def told(self, desk, answers):
        for line, answer in answers.items():
            with self.subTest(line):
                self.assertEqual(answer_of(desk, line), answer)

    def test_at_first(self):
        self.told(desk_with("web a " + WEB_TEXT), {
            "source a": WEB_TEXT, "done a": "none", "next a": "start 0|",
            "view a": "0 asleep 3 0 1:0:0:0|1 asleep 0 0 0:0:3:0 2:0:0:0|2 awake 0 0 1:0:0:0|",
            "heights a": "S..|...|...|.oM|", "stream a": "0-1 0 of 3|1-2 0 of 2|", "steps a": "0", "broken a": "none",
            "state a 0": "asleep 3 0", "state a 2": "awake 0 0", "holds a": "0 0 0", "most a": "2", "side a": "none",
            "bounds a": "1 197 177 20 20"})

    def test_amid_a_run(self):
        self.told(desk_with("web a " + WEB_TEXT, "start a", "take a 0 1"), {
            "done a": "start 0|take 0 1|", "next a": "take 1 0|take 1 2|", "steps a": "2", "stream a": "none",
            "view a": "0 awake 3 -3 1:3:0:0|1 awake 1 1 0:-3:3:0 2:2:0:2|2 awake 0 0 1:0:0:0|"
                      "1>0 rise,1|1>2 rise,1 push,2,1|",
            "heights a": "S..|...|.*.|..M|", "side a": "none", "holds a": "-3 1 0", "state a 1": "awake 1 1"})

    def test_at_the_end(self):
        self.told(desk_with("web a " + WEB_TEXT, "out a"), {
            "next a": "none", "steps a": "10", "stream a": "0-1 2 of 3|1-2 2 of 2|", "side a": "0 1",
            "holds a": "-2 0 2", "broken a": "none", "state a 1": "awake 4 0"})

    def test_a_web_without_ties(self):
        desk = desk_with("web a houses 2 0 1|")
        self.told(desk, {"stream a": "", "side a": "0", "next a": "start 0|", "most a": "0", "bounds a": "0 0 0 0 0"})
        self.told(desk, {"out a": "ok", "next a": "none", "view a": "0 awake 2 0|1 awake 0 0|", "done a": "start 0|"})

    def test_moves_taken_back(self):
        desk = desk_with("web a " + WEB_TEXT, "out a")
        pictures = {}
        for left in range(10, -1, -1):
            pictures[left] = stands(desk)
            self.assertEqual(desk.tell("steps a"), str(left))
            desk.tell("back a 1")
        for many, left in ((0, 10), (3, 7), (9, 1), (10, 0), (11, 0), (10 ** 20 - 1, 0)):
            desk.tell("out a")
            self.assertEqual(desk.tell(f"back a {many}"), "ok")
            self.assertEqual(stands(desk), pictures[left])

    def test_records(self):
        lines = "start 0|take 0 1 pour 3|still 1|take 1 2 yes|"
        self.told(desk_with(f"record a {WEB_TEXT}{lines}", "web b " + WEB_TEXT, "tell b b"), {
            "events a": WEB_TEXT + lines, "wrong a": "2 early", "chain a": "3", "seen a 0": "1", "seen a 1": "2",
            "seen a 2": "0", "wrong b": "none", "chain b": "8",
            "events b": record_text(recorded(WEB, ())).replace("\n", "|")})

    def test_tell_with_choices(self):
        desk = desk_with("web b " + web_text(BAR).replace("\n", "|"))
        for choices in ((), (0,), (1, 2, 3), (7,) * 50, (10 ** 20 - 1, 0, 5)):
            self.assertEqual(desk.tell(" ".join(["tell a b", *map(str, choices)])), "ok")
            self.assertEqual(desk.tell("events a"), record_text(recorded(BAR, choices)).replace("\n", "|"))

    def test_names_of_their_own(self):
        desk = desk_with("web a " + WEB_TEXT, "record a houses 2 0 1|", "start a", "tell b a")
        self.told(desk, {"source a": WEB_TEXT, "events a": "houses 2 0 1|", "steps a": "1", "steps b": (NoName, "b"),
                         "source b": (NoName, "b"), "chain b": "8"})

    def test_a_new_one_in_the_place_of_an_elder(self):
        desk = desk_with("web a " + WEB_TEXT, "out a", "tell a a", "web a houses 2 1 0|")
        self.told(desk, {"source a": "houses 2 1 0|", "steps a": "0", "done a": "none", "chain a": "8"})
        self.told(desk, {"record a houses 2 0 1|still 0|": (BadRecord, 0), "record b houses 2 0 1|": "ok",
                         "tell b a": "ok", "events b": "houses 2 1 0|start 1|"})

    def test_moves_that_cannot_be_made(self):
        desk = desk_with("web a " + WEB_TEXT)
        self.told(desk, {"take a 0 1": (NoMove,), "take a 0 0": (NoMove,), "take a 9 9": (NoMove,), "steps a": "0",
                         "start a": "ok"})
        self.told(desk, {"start a": (NoMove,), "take a 1 0": (NoMove,), "take a 0 2": (NoMove,),
                         f"take a {10 ** 20 - 1} 0": (NoMove,), "done a": "start 0|"})
        self.told(desk, {"out a": "ok", "take a 0 1": (NoMove,), "steps a": "10"})
        self.told(desk, {"out a": "ok", "steps a": "10"})

    def test_texts(self):
        self.told(Desk(), {
            "web a x": (BadText, 1), "web a houses 2 0 1": (BadText, 1), "web a |": (BadText, 1),
            "web a  ": (BadText, 1), "web a houses 2 0 1|tie": (BadText, 2), "web a houses 1 0 1|": (BadWeb, "many"),
            "web a  houses 2 0 1|": (BadText, 1), "record a houses 2 0 1|start 5|": (BadRecord, 0),
            "record a houses 2 0 0|start 5|": (BadWeb, "mouth"), "record a |houses 2 0 1|": (BadText, 1),
            "source a": (NoName, "a"), "events a": (NoName, "a")})

    def test_names(self):
        for name in ("a", "z", "abcdefgh", "none", "web", "tell"):
            other = name[:-1] + "x"
            self.told(desk_with(f"web {name} {WEB_TEXT}", f"tell {name} {name}"),
                      {f"source {name}": WEB_TEXT, f"chain {name}": "8", f"source {other}": (NoName, other)})
        for name in ("", "A", "aB", "abcdefghi", "a1", "1", "a_b", "-", "a-", "a|", "~"):
            for line in (f"web {name} {WEB_TEXT}", f"record {name} {WEB_TEXT}", f"tell {name} a", f"tell a {name}",
                         f"start {name}", f"seen {name} 0", f"source {name}", f"take {name} 0 1"):
                self.told(desk_with("web a " + WEB_TEXT), {line: (NoLine,)})

    def test_no_lines(self):
        desk = desk_with("web a " + WEB_TEXT, "tell a a")
        before = stands(desk)
        lines = ["", " ", "a", "web", "web a", "web a ", "web  a x", " web a x", "record", "record a", "record a ",
                 "tell a", "tell", "tell a a ", "tell a  a", "tell a a  1", "tell a a 1 ", "tell a a x", "tell a a -1",
                 "tell a a 01", f"tell a a {10 ** 20}", "start", "start ", "start a ", " start a", "start  a",
                 "start a 0", "take a", "take a 0", "take a 0 1 2", "take a 0  1", "take a -1 0", "take a 0 01",
                 f"take a 0 {10 ** 20}", "back a", "back a 1 1", "back a x", "back a -1", "back a 01", "out", "out a 1",
                 "state a", "state a x", "state a 0 0", f"state a {10 ** 20}", "seen a", "seen a 0 0", "seen a x",
                 "wrong a 1", "chain", "events a a", "Start a", "stop a", "keep a", "steps", "view a|", "view|a",
                 "start\na", "start a\n", "\nstart a", "web a x\ny", "web\na x", "tie 0 1 1 1", "houses 2 0 1", "ok",
                 "none", "tell a a 1.0", "start a start a", "back a +1"]
        for line in [*lines, *odd_things()]:
            with self.subTest(repr(line)[:60]):
                self.assertEqual(answer_of(desk, line), (NoLine,))
        self.assertEqual(stands(desk), before)

    def test_no_names(self):
        desk = desk_with("web a " + WEB_TEXT, "record b houses 2 0 1|")
        for word in ("start", "out", *OF_WEB):
            self.told(desk, {f"{word} b": (NoName, "b"), f"{word} c": (NoName, "c")})
        for word in OF_RECORD:
            self.told(desk, {f"{word} a": (NoName, "a"), f"{word} c": (NoName, "c")})
        self.told(desk, {"take b 0 1": (NoName, "b"), "take c 9 9": (NoName, "c"), "back b 1": (NoName, "b"),
                         "state b 9": (NoName, "b"), "seen a 9": (NoName, "a"), "tell c b": (NoName, "b"),
                         "tell c c 1": (NoName, "c"), "tell b x 5": (NoName, "x"), "events c": (NoName, "c"),
                         "seen b 9": (NoHouse,), "state a 9": (NoHouse,), "state a 3": (NoHouse,),
                         "seen b 2": (NoHouse,), "state a 2": "awake 0 0", "seen b 1": "0"})

    def test_desks_are_apart(self):
        one, other = desk_with("web a " + WEB_TEXT), Desk()
        self.assertEqual(answer_of(other, "source a"), (NoName, "a"))
        self.assertNotEqual(one, other)


class Drawn(unittest.TestCase):
    def drawn_line(self, draw, plain):
        names = ("a", "b", "c")
        name = draw.one_of(names)
        sort = draw.below(20)
        if sort == 0:
            web = draw.one_of((drawn_lively_web(draw), drawn_web(draw, many=draw.among(2, 5))))
            return f"web {name} " + self.text_of(draw, web_text(web))
        if sort == 1:
            web, events = drawn_events(draw, many=draw.among(2, 4))
            return f"record {name} " + self.text_of(draw, record_text(Record(web, events)))
        if sort == 2:
            return " ".join(["tell", name, draw.one_of(names), *map(str, drawn_choices(draw)[:40])])
        if sort < 8:
            return self.next_move(draw, plain, name)
        if sort == 8:
            return f"start {name}"
        if sort == 9:
            return f"{draw.one_of(('back', 'state', 'seen'))} {name} {draw.below(5)}"
        if sort == 10:
            return draw.one_of((f"out {name}", f"take {name} {draw.below(4)} {draw.below(4)}", f"back {name} 99"))
        line = f"{draw.one_of((*OF_WEB, *OF_RECORD))} {name}"
        at = draw.below(len(line) + 1)
        return line[:at] + draw.one_of((" ", "a", "|", "0", "\n")) + line[at:] if draw.below(12) == 0 else line

    def text_of(self, draw, text):
        text = text.replace("\n", "|")
        return text if draw.below(6) else text[:draw.below(len(text) + 1)]

    def next_move(self, draw, plain, name):
        told = answer_of(plain, f"next {name}")
        if not isinstance(told, str) or told == "none":
            return f"next {name}"
        sort, *houses = draw.one_of(told.split("|")[:-1]).split(" ")
        return f"start {name}" if sort == "start" else " ".join(["take", name, *houses])

    def test_drawn_lines(self):
        found = {}
        for seed in range(25):
            draw = Draw(seed)
            desk, plain = Desk(), PlainDesk()
            for _ in range(150):
                line = self.drawn_line(draw, plain)
                due = answer_of(plain, line)
                self.assertEqual(answer_of(desk, line), due, line)
                kind = due[0] if isinstance(due, tuple) else line.split(" ")[0]
                found[kind] = found.get(kind, 0) + 1
            self.assertEqual(stands(desk), stands(plain))
        for kind in (*OF_WEB, *OF_RECORD, "web", "record", "tell", "start", "take", "back", "out", "state", "seen",
                     NoLine, NoName, NoMove, NoHouse, BadText):
            self.assertGreater(found.get(kind, 0), 4, kind)

    def test_all_made_to_the_end(self):
        for seed in range(25):
            web = drawn_lively_web(Draw(seed))
            desk = desk_with("web x " + web_text(web).replace("\n", "|"))
            moves = 0
            while desk.tell("next x") != "none":
                move = desk.tell("next x").split("|")[-2].split(" ")
                self.assertEqual(desk.tell("start x" if move[0] == "start" else " ".join(["take x", *move[1:]])), "ok")
                self.assertEqual(desk.tell("broken x"), "none")
                moves += 1
            self.assertEqual(desk.tell("steps x"), str(moves))
            self.assertNotIn("none", (desk.tell("stream x"), desk.tell("side x")))
            self.assertEqual(desk.tell("holds x").split(" ")[web.mouth], desk.tell("most x"))

    def test_the_web_that_is_kept_is_the_one_that_is_read(self):
        desk = desk_with("web x houses 10 9 0|tie 0 9 1 5|")
        self.assertEqual(desk.tell("most x"), "5")
        self.assertEqual(desk.tell("source x"), web_text(Web(10, ((0, 9, 1, 5),), 9, 0)).replace("\n", "|"))


if __name__ == "__main__":
    unittest.main()

"""[10.1] and [10.2]: texts, read back, and held against patterns for each line."""
import unittest

from moststream.errors import BadRecord, BadText, BadWeb, StreamError
from moststream.records import Record, recorded
from moststream.streams import split
from moststream.texts import (moves_text, read_moves, read_record, read_split, read_stream, read_web, record_text,
                              split_text, stream_text, web_text)
from moststream.webs import Web
from tests.drawn import Draw, drawn_choices, drawn_stream, drawn_web, odd_things
from tests.drawn_records import drawn_events
from tests.plain_texts import bad_line, plain_told, spoiled_text

WEB = Web(3, ((0, 1, 3, 0), (1, 2, 2, 0)), 0, 2)
WEB_TEXT = "houses 3 0 2\ntie 0 1 3 0\ntie 1 2 2 0\n"
READERS = {"web": read_web, "stream": read_stream, "split": read_split, "moves": read_moves, "record": read_record}
MOST = 10 ** 20 - 1


def answer_of(call, thing):
    """What is read, or the pair of the error's class and its field."""
    try:
        return call(thing)
    except StreamError as error:
        return (type(error), *vars(error).values())


def plain_answer(sort, text):
    """What the plain reading tells in the place of answer_of."""
    line = bad_line(sort, text)
    if line is not None:
        return (BadText, line)
    told = plain_told(sort, text)
    if sort not in ("web", "record"):
        return told
    web = answer_of(lambda parts: Web(*parts), told[0])
    if sort == "web" or not isinstance(web, Web):
        return web
    return answer_of(lambda events: Record(web, events), told[1])


class Written(unittest.TestCase):
    def test_webs(self):
        self.assertEqual(web_text(WEB), WEB_TEXT)
        self.assertEqual(web_text(Web(10, (), 9, 0)), "houses 10 9 0\n")
        self.assertEqual(web_text(Web(2, ((0, 1, 999999, 0),), 1, 0)), "houses 2 1 0\ntie 0 1 999999 0\n")

    def test_streams(self):
        self.assertEqual(stream_text((2, -2, 0)), "stream 2 -2 0\n")
        self.assertEqual(stream_text([2, -2, 0]), "stream 2 -2 0\n")
        self.assertEqual(stream_text(()), "stream\n")
        self.assertEqual(stream_text([MOST, -MOST]), "stream 99999999999999999999 -99999999999999999999\n")

    def test_splits(self):
        parts = (((0, 1, 2), 2), ((0, 3, 2), 40))
        self.assertEqual(split_text(parts), "way 2 0 1 2\nway 40 0 3 2\n")
        self.assertEqual(split_text(list(parts)), "way 2 0 1 2\nway 40 0 3 2\n")
        self.assertEqual(split_text(()), "")

    def test_moves(self):
        moves = [("start", 0), ("take", 0, 1), ("take", 10, 2)]
        self.assertEqual(moves_text(moves), "start 0\ntake 0 1\ntake 10 2\n")
        self.assertEqual(moves_text(tuple(moves)), "start 0\ntake 0 1\ntake 10 2\n")
        self.assertEqual(moves_text([]), "")

    def test_records(self):
        events = (("still", 1), ("start", 0), ("take", 0, 1, ("pour", 3)), ("take", 1, 2, ("push", 2, 1)),
                  ("take", 2, 1, ("yes",)), ("take", 2, 1, ("no", 0)), ("take", 1, 0, ("rise", 4)))
        self.assertEqual(record_text(Record(WEB, events)),
                         WEB_TEXT + "still 1\nstart 0\ntake 0 1 pour 3\ntake 1 2 push 2 1\ntake 2 1 yes\n"
                         "take 2 1 no 0\ntake 1 0 rise 4\n")
        self.assertEqual(record_text(Record(WEB, ())), WEB_TEXT)

    def test_what_is_passed_stays(self):
        moves, parts, units = [("start", 0)], [((0, 1), 2)], [1, 2]
        moves_text(moves), split_text(parts), stream_text(units)
        self.assertEqual((moves, parts, units), ([("start", 0)], [((0, 1), 2)], [1, 2]))


class Read(unittest.TestCase):
    def test_kinds(self):
        self.assertEqual(read_web(WEB_TEXT), WEB)
        self.assertIs(type(read_web(WEB_TEXT)), Web)
        self.assertEqual(read_web(WEB_TEXT).ties, WEB.ties)
        self.assertEqual(read_stream("stream 1 -20 0\n"), (1, -20, 0))
        self.assertEqual(read_stream("stream\n"), ())
        self.assertEqual(read_split("way 2 0 1 2\nway 0 7\n"), (((0, 1, 2), 2), ((7,), 0)))
        self.assertEqual(read_split(""), ())
        self.assertEqual(read_moves("take 0 1\nstart 5\n"), (("take", 0, 1), ("start", 5)))
        self.assertEqual(read_moves(""), ())
        self.assertEqual(read_record(WEB_TEXT), Record(WEB, ()))
        self.assertEqual(read_record(WEB_TEXT + "start 0\nstill 1\ntake 1 0 no 4\n").events,
                         (("start", 0), ("still", 1), ("take", 1, 0, ("no", 4))))

    def test_drawn_ones_are_read_back(self):
        for seed in range(150):
            draw = Draw(seed)
            web = drawn_web(draw, most_units=draw.one_of((3, 99, 999999)))
            self.assertEqual(read_web(web_text(web)), web)
            stream = drawn_stream(draw, web)
            parts = split(web, stream) or ()
            for kind in (list, tuple):
                self.assertEqual(read_stream(stream_text(kind(stream))), stream)
                self.assertEqual(read_split(split_text(kind(parts))), parts)

    def test_drawn_moves_and_records_are_read_back(self):
        for seed in range(60):
            draw = Draw(seed)
            web, events = drawn_events(draw)
            record = Record(web, events)
            text = record_text(record)
            self.assertEqual(read_record(text), record)
            moves = tuple(event[:3] for event in events if event[0] != "still")
            for kind in (list, tuple):
                self.assertEqual(read_moves(moves_text(kind(moves))), moves)
            run = recorded(web, drawn_choices(draw))
            self.assertEqual(read_record(record_text(run)), run)

    def test_a_long_record(self):
        for many in (3000, 3001):
            text = WEB_TEXT + "still 1\n" * many
            if many == 3000:
                self.assertEqual(read_record(text), Record(WEB, (("still", 1),) * 3000))
                self.assertEqual(record_text(read_record(text)), text)
            else:
                self.assertEqual(answer_of(read_record, text), (BadRecord, -1))

    def test_numbers_of_twenty_figures(self):
        self.assertEqual(read_stream(f"stream {MOST} -{MOST}\n"), (MOST, -MOST))
        self.assertEqual(read_moves(f"take {MOST} 0\n"), (("take", MOST, 0),))
        self.assertEqual(read_split(f"way {MOST} {MOST}\n"), (((MOST,), MOST),))
        self.assertEqual(answer_of(read_web, f"houses {MOST} 0 1\n"), (BadWeb, "many"))
        for text in (f"stream {MOST + 1}\n", f"stream 0 -{MOST + 1}\n"):
            self.assertEqual(answer_of(read_stream, text), (BadText, 1))
        self.assertEqual(answer_of(read_moves, f"start 0\nstart {MOST + 1}\n"), (BadText, 2))
        self.assertEqual(answer_of(read_split, f"way {MOST + 1} 0\n"), (BadText, 1))
        self.assertEqual(answer_of(read_split, f"way 0 {MOST + 1}\n"), (BadText, 1))
        self.assertEqual(answer_of(read_web, f"houses {MOST + 1} 0 1\n"), (BadText, 1))


class Wrong(unittest.TestCase):
    def bad(self, sort, text, line):
        with self.subTest(sort, text=text):
            self.assertEqual(bad_line(sort, text), line)
            self.assertEqual(answer_of(READERS[sort], text), (BadText, line))

    def test_no_strings(self):
        for thing in odd_things() + [("stream\n",), ["stream\n"], b"stream\n", 10 ** 19]:
            if not isinstance(thing, str):
                for sort, reader in READERS.items():
                    self.assertEqual(answer_of(reader, thing), (BadText, 0), sort)

    def test_the_first_line_lacks(self):
        for sort in ("web", "stream", "record"):
            self.bad(sort, "", 1)
        for sort in READERS:
            self.bad(sort, "\n", 1)
            self.bad(sort, " ", 1)
            self.bad(sort, "\n\n", 1)

    def test_the_last_line_feed_lacks_or_something_is_behind(self):
        for sort, text in (("web", WEB_TEXT), ("stream", "stream 1\n"), ("split", "way 1 0 1\n"),
                           ("moves", "start 0\n"), ("record", WEB_TEXT + "start 0\n")):
            lines = text.count("\n")
            self.bad(sort, text[:-1], lines)
            self.bad(sort, text + "x", lines + 1)
            self.bad(sort, text + " ", lines + 1)
            self.bad(sort, text + "\n", lines + 1)
            self.bad(sort, text + text[:-1], lines + 1)
            self.bad(sort, " " + text, 1)
            self.bad(sort, "\n" + text, 1)

    def test_integers_and_numbers(self):
        for word in ("01", "00", "-0", "-01", "+1", "1.0", "", "a", "1a", "- 1", "--1", "-", "1_0", "0x1", "1e1", " 1",
                     "1 ", "1-", "0" * 20 + "1"):
            self.bad("stream", f"stream 1 {word}\n", 1)
            self.bad("split", f"way 1 0\nway {word} 0\n", 2)
            self.bad("split", f"way 1 0\nway 1 0 {word}\n", 2)
            self.bad("moves", f"start {word}\n", 1)
            self.bad("moves", f"start 0\ntake {word} 0\n", 2)
            self.bad("moves", f"start 0\ntake 0 {word}\n", 2)
            self.bad("web", f"houses {word} 0 1\n", 1)
            self.bad("web", f"{WEB_TEXT}tie 1 2 {word} 0\n", 4)
            self.bad("record", f"{WEB_TEXT}take 0 1 pour {word}\n", 4)
            self.bad("record", f"{WEB_TEXT}start 0\nstill {word}\n", 5)
        for text in ("houses -1 0 1\n", "houses 3 -1 1\n", "houses 3 0 -1\n"):
            self.bad("web", text, 1)
        self.bad("web", "houses 3 0 1\ntie 0 1 -1 0\n", 2)
        self.bad("moves", "start -1\n", 1)
        self.bad("split", "way -1 0\n", 1)
        self.bad("record", WEB_TEXT + "take 0 1 rise -1\n", 4)

    def test_how_many_words(self):
        for line in ("houses 3 0", "houses 3 0 1 1", "houses", "Houses 3 0 1", "house 3 0 1", "tie 0 1 2 3", "3 0 1",
                     "houses 3  0 1", "houses 3 0 1 "):
            self.bad("web", line + "\n", 1)
            self.bad("record", line + "\n", 1)
        for line in ("tie 0 1 2", "tie 0 1 2 3 4", "tie", "ties 0 1 2 3", "houses 3 0 1", "0 1 2 3", "start 0", ""):
            self.bad("web", f"houses 3 0 1\n{line}\n", 2)
        for line in ("streams 1", "Stream 1", "1 2", "way 1 0", ""):
            self.bad("stream", line + "\n", 1)
        self.bad("stream", "stream 1\nstream 1\n", 2)
        for line in ("way", "way 1", "ways 1 0", "1 0", "tie 0 1 2 3"):
            self.bad("split", f"way 1 0\n{line}\n", 2)
        for line in ("start", "start 0 1", "take 0", "take 0 1 2", "take", "still 0", "take 0 1 yes", "starts 0"):
            self.bad("moves", f"take 0 1\n{line}\n", 2)

    def test_words_of_a_record(self):
        for word in ("pour", "pour 1 2", "push 1", "push 1 2 3", "push", "yes 1", "no", "no 1 2", "rise", "rise 1 1",
                     "Yes", "", "5", "stop", "take 0 1", "yes yes", "pour yes"):
            self.bad("record", f"{WEB_TEXT}start 0\ntake 0 1 {word}\n", 5)
        for line in ("take 0 1", "take 0", "take", "take yes", "take 0 yes", "still", "still 1 1", "start", "start 0 0",
                     "take 0 1 2 yes", "houses 3 0 2", "keep 1", ""):
            self.bad("record", f"{WEB_TEXT}start 0\n{line}\n", 5)
            self.bad("record", f"{WEB_TEXT}{line}\n", 4)

    def test_ties_only_ahead_of_the_first_event(self):
        for event in ("start 0", "still 1", "take 0 1 yes"):
            self.bad("record", f"houses 3 0 2\n{event}\ntie 0 1 3 0\n", 3)
            self.bad("record", f"{WEB_TEXT}{event}\ntie 1 2 2 0\n", 5)
        self.bad("record", "tie 0 1 3 0\nhouses 3 0 2\n", 1)

    def test_then_webs_then_records(self):
        for text, error in (("houses 1 0 0\n", (BadWeb, "many")), ("houses 11 0 1\n", (BadWeb, "many")),
                            ("houses 3 3 1\n", (BadWeb, "spring")), ("houses 3 1 1\n", (BadWeb, "mouth")),
                            ("houses 3 0 1\ntie 0 1 1 1\ntie 0 1 1 1\n", (BadWeb, 1)),
                            ("houses 3 9 9\ntie 0 1 1000000 1\n", (BadWeb, 0))):
            self.assertEqual(answer_of(read_web, text), error)
            self.assertEqual(answer_of(read_record, text), error)
            self.assertEqual(answer_of(read_record, text + "still 99\n"), error)
            lines = text.count("\n")
            self.assertEqual(answer_of(read_web, text + "tie"), (BadText, lines + 1))
            self.assertEqual(answer_of(read_record, text + "start 0\nstill\n"), (BadText, lines + 2))
        for lines, index in (("start 3\n", 0), ("start 0\nstill 0\n", 1), ("start 0\nstill 1\nstill 2\n", 2),
                             ("take 0 2 yes\n", 0), ("take 0 1 pour 0\n", 0), ("start 1\ntake 0 1 rise 1000\n", 1),
                             (f"start 0\ntake 0 1 pour {10 ** 9}\n", 1)):
            self.assertEqual(answer_of(read_record, WEB_TEXT + lines), (BadRecord, index))
            self.assertEqual(answer_of(read_record, WEB_TEXT + lines + "rise 1\n"), (BadText, 4 + lines.count("\n")))


class Spoiled(unittest.TestCase):
    def drawn_text(self, draw, sort):
        web, events = drawn_events(draw, many=draw.among(2, 4))
        if sort in ("web", "record"):
            record = Record(web, events[:draw.below(30)])
            return web_text(web) if sort == "web" else record_text(record)
        if sort == "moves":
            return moves_text([event[:3] for event in events[:draw.below(20)] if event[0] != "still"])
        stream = drawn_stream(draw, web)
        return stream_text(stream) if sort == "stream" else split_text(split(web, stream) or ())

    def test_against_the_plain_reading(self):
        for sort, reader in READERS.items():
            found = {"read": 0, "bad": 0}
            for seed in range(120):
                draw = Draw(seed)
                first = self.drawn_text(draw, sort)
                for _ in range(12):
                    text = spoiled_text(draw, first)
                    if draw.below(3) == 0:
                        text = spoiled_text(draw, text)
                    told = answer_of(reader, text)
                    self.assertEqual(told, plain_answer(sort, text), text)
                    self.read_as_written(sort, text, told)
                    found["bad" if bad_line(sort, text) else "read"] += 1
            self.assertGreater(min(found.values()), 40, (sort, found))

    def read_as_written(self, sort, text, told):
        """What is read has just this text."""
        if bad_line(sort, text) is None:
            writer = {"web": web_text, "stream": stream_text, "split": split_text, "moves": moves_text,
                      "record": record_text}[sort]
            if not (isinstance(told, tuple) and told and told[0] in (BadWeb, BadRecord)):
                self.assertEqual(writer(told), text)


if __name__ == "__main__":
    unittest.main()

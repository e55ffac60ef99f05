"""The desk: webs with the moves made on them, and records, led by lines."""
from moststream.ends import bounds, stream_of
from moststream.errors import NoLine, NoName
from moststream.films import drawn, drawn_heights, drawn_stream
from moststream.glass import behind_move, broken, first_glass, held_by, next_moves
from moststream.records import first_wrong, longest_chain, recorded, seen
from moststream.streams import is_stream, most, side_of
from moststream.texts import moves_text, numbers_of, read_record, read_web, record_text, web_text, words_text
from moststream.webs import check_house

LETTERS = "abcdefghijklmnopqrstuvwxyz"
MOST_LETTERS = 8
# How many numbers the lines of a web, and those of a record, have behind the name.
WEB_NUMBERS = {"start": 0, "take": 2, "back": 1, "out": 0, "source": 0, "done": 0, "next": 0, "view": 0, "heights": 0,
               "stream": 0, "steps": 0, "broken": 0, "state": 1, "holds": 0, "most": 0, "side": 0, "bounds": 0}
RECORD_NUMBERS = {"events": 0, "wrong": 0, "chain": 0, "seen": 1}


class Played:
    """A web with the moves made on it, and the glass behind each of them."""

    def __init__(self, web):
        self.web = web
        self.run = []
        self.glasses = [first_glass(web)]

    def glass(self):
        """The glass that stands."""
        return self.glasses[-1]

    def make(self, move):
        """Makes a move: NoMove if it can't be made."""
        self.glasses.append(behind_move(self.web, self.glass(), move))
        self.run.append(move)

    def take_back(self, many):
        """Takes the last moves back, all if there are fewer."""
        left = max(len(self.run) - many, 0)
        self.run = self.run[:left]
        self.glasses = self.glasses[:left + 1]

    def make_all(self):
        """Makes the least move, until there is none."""
        can_be_next = next_moves(self.web, self.glass())
        while len(can_be_next) > 0:
            self.make(can_be_next[0])
            can_be_next = next_moves(self.web, self.glass())


def _barred(text):
    """A text with a bar in the place of each line feed."""
    return text.replace("\n", "|")


def _or_none(text):
    return "none" if text == "" else text


def _start(played, _):
    played.make(("start", played.web.spring))
    return "ok"


def _take(played, numbers):
    played.make(("take", *numbers))
    return "ok"


def _back(played, numbers):
    played.take_back(numbers[0])
    return "ok"


def _out(played, _):
    played.make_all()
    return "ok"


def _source(played, _):
    return _barred(web_text(played.web))


def _done(played, _):
    return _or_none(_barred(moves_text(played.run)))


def _can_be_next(played, _):
    return _or_none(_barred(moves_text(next_moves(played.web, played.glass()))))


def _view(played, _):
    return _barred(drawn(played.web, played.glass()))


def _heights(played, _):
    return _barred(drawn_heights(played.web, played.glass()))


def _stream_there(played):
    """The stream that stands, None if what stands is none."""
    stream = stream_of(played.web, played.glass())
    return stream if is_stream(played.web, stream) else None


def _stream(played, _):
    stream = _stream_there(played)
    return "none" if stream is None else _barred(drawn_stream(played.web, stream))


def _steps(played, _):
    return str(len(played.run))


def _broken(played, _):
    return _or_none(words_text(broken(played.web, played.glass())))


def _state(played, numbers):
    check_house(played.web, numbers[0])
    return words_text(played.glass()[0][numbers[0]][:3])


def _holds(played, _):
    return words_text([held_by(played.glass(), house) for house in range(played.web.many)])


def _most(played, _):
    return str(most(played.web))


def _side(played, _):
    stream = _stream_there(played)
    side = None if stream is None else side_of(played.web, stream)
    return "none" if side is None else words_text(side)


def _bounds(played, _):
    return words_text(bounds(played.web))


def _events(record, _):
    return _barred(record_text(record))


def _wrong(record, _):
    wrong = first_wrong(record)
    return "none" if wrong is None else words_text(wrong)


def _chain(record, _):
    return str(longest_chain(record))


def _seen(record, numbers):
    return str(len(seen(record, numbers[0])))


ACTIONS = {
    "start": _start, "take": _take, "back": _back, "out": _out, "source": _source, "done": _done, "next": _can_be_next,
    "view": _view, "heights": _heights, "stream": _stream, "steps": _steps, "broken": _broken, "state": _state,
    "holds": _holds, "most": _most, "side": _side, "bounds": _bounds, "events": _events, "wrong": _wrong,
    "chain": _chain, "seen": _seen,
}


def _is_name(word):
    return 0 < len(word) <= MOST_LETTERS and all([sign in LETTERS for sign in word])


def _check_line(holds):
    if not holds:
        raise NoLine()


def _kept(things, name):
    """What is kept under a name: NoName if nothing is."""
    if name not in things:
        raise NoName(name)
    return things[name]


class Desk:
    """Webs with the moves made on them, and records, each under names of their own."""

    def __init__(self):
        self.webs = {}
        self.records = {}

    def tell(self, line):
        """Does a line: what it tells."""
        _check_line(isinstance(line, str) and "\n" not in line)
        words = line.split(" ")
        if words[0] in ("web", "record"):
            return self.keep_text(line)
        if words[0] == "tell":
            return self.keep_run(words)
        if words[0] in WEB_NUMBERS:
            return _answered(self.webs, WEB_NUMBERS[words[0]], words)
        _check_line(words[0] in RECORD_NUMBERS)
        return _answered(self.records, RECORD_NUMBERS[words[0]], words)

    def keep_text(self, line):
        """Keeps what is read from the text of a line."""
        sort, _, behind = line.partition(" ")
        name, _, text = behind.partition(" ")
        _check_line(_is_name(name) and text != "")
        if sort == "web":
            self.webs[name] = Played(read_web(text.replace("|", "\n")))
        else:
            self.records[name] = read_record(text.replace("|", "\n"))
        return "ok"

    def keep_run(self, words):
        """Keeps the record of a run on a web."""
        _check_line(len(words) > 2 and _is_name(words[1]) and _is_name(words[2]))
        choices = numbers_of(words[3:])
        _check_line(choices is not None)
        self.records[words[1]] = recorded(_kept(self.webs, words[2]).web, choices)
        return "ok"


def _answered(things, many, words):
    """What the words of a line tell of the thing under their name, if they have so many numbers behind it."""
    _check_line(len(words) == many + 2 and _is_name(words[1]))
    numbers = numbers_of(words[2:])
    _check_line(numbers is not None)
    action = ACTIONS[words[0]]
    return action(_kept(things, words[1]), numbers)

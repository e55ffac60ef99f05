"""Texts of webs, streams, splits, moves and records, line by line, and what is read from them."""
from moststream.errors import BadText
from moststream.records import Record
from moststream.webs import Web

MOST_FIGURES = 20
# How many numbers each sort of word has.
NUMBERS_OF = {"pour": 1, "push": 2, "yes": 0, "no": 1, "rise": 1}


def words_text(words):
    """Strings and integers with a blank between two."""
    return " ".join([str(word) for word in words])


def _line(words):
    return words_text(words) + "\n"


def web_text(web):
    """The text of a web."""
    first = _line(["houses", web.many, web.spring, web.mouth])
    return first + "".join([_line(["tie", *tie]) for tie in web.ties])


def stream_text(stream):
    """The text of the units of a stream."""
    return _line(["stream", *stream])


def split_text(split):
    """The text of pairs of way and units."""
    return "".join([_line(["way", units, *way]) for way, units in split])


def moves_text(moves):
    """The text of moves."""
    return "".join([_line(move) for move in moves])


def record_text(record):
    """The text of a record: that of its web, and its events."""
    return web_text(record.web) + "".join([_event_line(event) for event in record.events])


def _event_line(event):
    if event[0] == "take":
        return _line([*event[:3], *event[3]])
    return _line(event)


def integer_of(word):
    """The integer that a word tells, None if it tells none."""
    figures = word[1:] if word.startswith("-") else word
    if len(figures) > MOST_FIGURES or not figures.isdecimal():
        return None
    number = int(word)
    # An integer has one text alone, so needless zeros and -0 are told by it.
    return number if str(number) == word else None


def numbers_of(words):
    """The tuple of the numbers that words tell, None if one of them tells none."""
    numbers = [integer_of(word) for word in words]
    if any([number is None or number < 0 for number in numbers]):
        return None
    return tuple(numbers)


def _told(sort, many, words):
    """The tuple of the sort and its numbers that the words of a line tell, None if they do not tell so many."""
    if words[0] != sort or len(words) != many + 1:
        return None
    numbers = numbers_of(words[1:])
    return None if numbers is None else (sort, *numbers)


def _read(text, read_line):
    """The list of what the lines of a text tell.

    read_line is passed the list of what the lines ahead tell, and the words of
    a line, and returns what it tells, None if that has not the form that is due.
    """
    if not isinstance(text, str):
        raise BadText(0)
    *lines, rest = text.split("\n")
    found = []
    for number, line in enumerate(lines, start=1):
        told = read_line(found, line.split(" "))
        if told is None:
            raise BadText(number)
        found.append(told)
    if rest != "":
        raise BadText(len(lines) + 1)
    return found


def _read_some(text, read_line):
    """What _read tells of texts in which there is a line at least."""
    found = _read(text, read_line)
    if len(found) == 0:
        raise BadText(1)
    return found


def _web_line(found, words):
    if len(found) == 0:
        return _told("houses", 3, words)
    return _told("tie", 4, words)


def _web_of(lines):
    """The Web of which these lines tell."""
    _, many, spring, mouth = lines[0]
    return Web(many, tuple([line[1:] for line in lines[1:]]), spring, mouth)


def read_web(text):
    """The Web of a text."""
    return _web_of(_read_some(text, _web_line))


def _stream_line(found, words):
    units = [integer_of(word) for word in words[1:]]
    if len(found) > 0 or words[0] != "stream" or None in units:
        return None
    return tuple(units)


def read_stream(text):
    """The tuple of the integers of a stream's text."""
    return _read_some(text, _stream_line)[0]


def _way_line(_, words):
    numbers = numbers_of(words[1:])
    if words[0] != "way" or numbers is None or len(numbers) < 2:
        return None
    return (numbers[1:], numbers[0])


def read_split(text):
    """The tuple of the pairs of way and units of a split's text."""
    return tuple(_read(text, _way_line))


def _move_line(_, words):
    if words[0] == "start":
        return _told("start", 1, words)
    return _told("take", 2, words)


def read_moves(text):
    """The tuple of the moves of a text."""
    return tuple(_read(text, _move_line))


def _record_line(found, words):
    if len(found) == 0 or (words[0] == "tie" and _is_of_web(found[-1])):
        return _web_line(found, words)
    if words[0] == "take":
        return _take_of(words)
    if words[0] == "still":
        return _told("still", 1, words)
    return _told("start", 1, words)


def _is_of_web(line):
    return line[0] in ("houses", "tie")


def _take_of(words):
    """The take that the words of a line tell, None if they tell none."""
    way = _told("take", 2, words[:3])
    if way is None or len(words) < 4 or words[3] not in NUMBERS_OF:
        return None
    word = _told(words[3], NUMBERS_OF[words[3]], words[3:])
    return None if word is None else (*way, word)


def read_record(text):
    """The Record of a text."""
    found = _read_some(text, _record_line)
    web = _web_of([line for line in found if _is_of_web(line)])
    return Record(web, tuple([line for line in found if not _is_of_web(line)]))

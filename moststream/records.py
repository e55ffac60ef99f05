"""Records that strangers tell: what is wrong in them, what caused what, and what comes of it."""
from moststream.ends import check_choices, chosen
from moststream.errors import BadRecord, NoMoment
from moststream.glass import first_glass, first_word, height_of, held_by, made, spring_sleeps
from moststream.kinds import is_number_below, is_tuple_of
from moststream.states import is_word
from moststream.webs import are_tied, check_house, lets

MOST_EVENTS = 3000


class Record:
    """Events that are told of a web; what they do from the first glass on is known at once."""

    def __init__(self, web, events):
        _check_events(web, events)
        self.web = web
        self.events = events
        self.glasses, self.sent = _replayed(web, events)

    def __eq__(self, other):
        return isinstance(other, Record) and self.web == other.web and self.events == other.events


def _check_events(web, events):
    if not isinstance(events, tuple) or len(events) > MOST_EVENTS:
        raise BadRecord(-1)
    for index, event in enumerate(events):
        if not _is_event(web, event):
            raise BadRecord(index)


def _is_event(web, thing):
    if not isinstance(thing, tuple) or len(thing) == 0:
        return False
    if thing[0] == "take":
        return len(thing) == 4 and are_tied(web, thing[1], thing[2]) and is_word(thing[3])
    if not is_tuple_of(2, thing) or not is_number_below(web.many, thing[1]):
        return False
    return thing[0] == "start" or (thing[0] == "still" and _is_between(web, thing[1]))


def _is_between(web, house):
    return house not in (web.spring, web.mouth)


def _replayed(web, events):
    """The pair of two tuples: all glasses up to the one behind what can be done, and what is sent in each event."""
    glass = first_glass(web)
    glasses = [glass]
    sent = []
    for event in events:
        if _fault(web, glass, event) in ("awake", "empty", "other"):
            break
        out = ()
        if event[0] != "still":
            glass, out = made(web, glass, event[:3])
        glasses.append(glass)
        sent.append(out)
    return (tuple(glasses), tuple(sent))


def _fault(web, glass, event):
    """The word of what is wrong with an event at a glass, None if nothing is."""
    if event[0] == "start":
        return None if event[1] == web.spring and spring_sleeps(web, glass) else "awake"
    if event[0] == "still":
        return None if held_by(glass, event[1]) == 0 else "early"
    word = first_word(glass, event)
    if word is None:
        return "empty"
    return None if word == event[3] else "other"


def first_wrong(record):
    """The pair of the index of the first event that is wrong and the word of what is, None if none is."""
    for index, (event, glass) in enumerate(zip(record.events, record.glasses)):
        word = _fault(record.web, glass, event)
        if word is not None:
            return (index, word)
    return None


def glass_then(record, at):
    """The glass behind so many events."""
    if not is_number_below(len(record.glasses), at):
        raise NoMoment()
    return record.glasses[at]


def _events_done(record):
    """The events that can be done."""
    return record.events[:len(record.sent)]


def _house_of(event):
    """The house of which this is an event: of a take the one that hears."""
    return event[2] if event[0] == "take" else event[1]


def causes(record):
    """For each event that can be done the lot of the indexes of those that cause it directly."""
    last_of = {}
    sent_in = {}
    found = []
    for index, (event, out) in enumerate(zip(record.events, record.sent)):
        house = _house_of(event)
        lot = [last_of[house]] if house in last_of else []
        if event[0] == "take":
            lot.append(sent_in[(event[1], house)].pop(0))
        for other, _ in out:
            sent_in.setdefault((house, other), []).append(index)
        last_of[house] = index
        found.append(tuple(sorted(lot)))
    return tuple(found)


def vectors(record):
    """For each event that can be done, house by house, how many of its events are this one or cause it."""
    found = []
    for event, lot in zip(record.events, causes(record)):
        # What causes an event are of each house its first ones, so the greatest count has all of them.
        counts = [max([found[index][house] for index in lot], default=0) for house in range(record.web.many)]
        counts[_house_of(event)] += 1
        found.append(tuple(counts))
    return tuple(found)


def longest_chain(record):
    """How many events the longest chain has in which each is caused by the one ahead."""
    lengths = []
    for lot in causes(record):
        lengths.append(1 + max([lengths[index] for index in lot], default=0))
    return max(lengths, default=0)


def seen(record, house):
    """The tuple of the events of a house, of those that can be done."""
    check_house(record.web, house)
    return tuple([event for event in _events_done(record) if _house_of(event) == house])


def is_alike(record, thing):
    """Whether a thing is a Record of the same web in which each house sees the same."""
    if not isinstance(thing, Record) or record.web != thing.web:
        return False
    return all([seen(record, house) == seen(thing, house) for house in range(record.web.many)])


def by_least(record):
    """The Record of the events that can be done, the next one of the least house that can have one coming first."""
    lots = causes(record)
    left = [_indexes_of(record, house) for house in range(record.web.many)]
    order = []
    placed = [False] * len(lots)
    while len(order) < len(lots):
        free = [house for house, indexes in enumerate(left) if _is_free(indexes, lots, placed)]
        index = left[min(free)].pop(0)
        placed[index] = True
        order.append(record.events[index])
    return Record(record.web, tuple(order))


def _indexes_of(record, house):
    """The list of the indexes of a house's events, of those that can be done."""
    return [index for index, event in enumerate(_events_done(record)) if _house_of(event) == house]


def _is_free(indexes, lots, placed):
    """Whether there is a first of these indexes, and all that cause it are placed."""
    return len(indexes) > 0 and all([placed[index] for index in lots[indexes[0]]])


def carried(record, one, other):
    """How many units of pours and pushes the other house took from the one."""
    # Asked because it raises what is due for houses and ties.
    lets(record.web, one, other)
    taken = [_units_taken(event[3], glass, other) for event, glass in zip(_events_done(record), record.glasses)
             if event[:3] == ("take", one, other)]
    return sum(taken)


def _units_taken(word, glass, house):
    """How many units of a word a house takes that hears it at a glass."""
    if word[0] == "pour" or (word[0] == "push" and word[2] == height_of(glass, house) + 1):
        return word[1]
    return 0


def recorded(web, choices):
    """The Record of a run from the first glass, with a still where a house comes to hold nothing."""
    check_choices(choices)
    glass = first_glass(web)
    events = []
    at = 0
    move = chosen(web, glass, choices, at)
    while move is not None and len(events) < MOST_EVENTS:
        behind, _ = made(web, glass, move)
        events.extend(_told(web, glass, behind, move))
        glass = behind
        at += 1
        move = chosen(web, glass, choices, at)
    return Record(web, tuple(events[:MOST_EVENTS]))


def _told(web, glass, behind, move):
    """The list of the events that a move tells, with the glasses ahead of it and behind it."""
    if move[0] == "start":
        return [move]
    house = move[2]
    take = move + (first_word(glass, move),)
    if _is_between(web, house) and held_by(glass, house) != 0 and held_by(behind, house) == 0:
        return [take, ("still", house)]
    return [take]

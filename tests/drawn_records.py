"""Drawn records: runs as they happen, with events put in, left out and changed."""
from moststream.records import glass_then, recorded
from tests.drawn import drawn_choices, drawn_web


def drawn_events(draw, many=None):
    """The pair of a web and events: those of a run, most often with a few of them spoiled."""
    web = drawn_web(draw, many=many or draw.among(2, 6), most_units=draw.one_of((3, 9, 99)),
                    shape=draw.one_of(("some", "all", "row", "none")))
    record = recorded(web, drawn_choices(draw))
    events = list(record.events)
    if draw.below(3) == 0:
        put_early_still(draw, web, record, events)
    for _ in range(draw.below(5)):
        spoil(draw, web, events)
    return web, tuple(events)


def put_early_still(draw, web, record, events):
    """Puts a still where a house holds something, if one ever does."""
    held = [(at, house) for at in range(len(events) + 1) for house, state in enumerate(glass_then(record, at)[0])
            if state[2] and house not in (web.spring, web.mouth)]
    if held:
        at, house = draw.one_of(held)
        events.insert(at, ("still", house))


def spoil(draw, web, events):
    """Changes the list of events in one place."""
    at = draw.below(len(events) + 1)
    between = [house for house in range(web.many) if house not in (web.spring, web.mouth)]
    sort = draw.below(8)
    if sort < 4:
        if between:
            events.insert(at, ("still", draw.one_of(between)))
    elif sort == 4:
        events.insert(at, ("start", draw.below(web.many)))
    elif at < len(events) and sort == 5:
        del events[at]
    elif at + 1 < len(events) and sort == 6:
        events[at], events[at + 1] = events[at + 1], events[at]
    elif at < len(events) and events[at][0] == "take":
        words = (("yes",), ("no", 0), ("rise", 1), ("push", 1, 1), ("pour", 1))
        events[at] = (*events[at][:3], draw.one_of(words))


def shuffled(draw, record, direct):
    """Events that can be done, in another order in which each has all that cause it ahead of it."""
    order = []
    while len(order) < len(direct):
        free = [index for index, because in enumerate(direct) if index not in order and because <= set(order)]
        order.append(draw.one_of(free))
    return tuple(record.events[index] for index in order)

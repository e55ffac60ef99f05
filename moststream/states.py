"""What a house knows and does: its state, the words it hears, and those it sends."""
from moststream.errors import NotSpring, NoWord
from moststream.kinds import is_int, is_number, is_number_below, is_tuple_of
from moststream.webs import check_house, lets, neighbours

UNITS_LIMIT = 1000000000
HEIGHT_LIMIT = 1000


def _is_units(thing):
    return is_number_below(UNITS_LIMIT, thing) and thing > 0


def _is_height(thing):
    return is_number_below(HEIGHT_LIMIT, thing)


def is_word(thing):
    """Whether a thing is a word by its form."""
    if not isinstance(thing, tuple) or len(thing) == 0 or not isinstance(thing[0], str):
        return False
    sort = thing[0]
    numbers = thing[1:]
    if sort == "pour":
        return len(numbers) == 1 and _is_units(numbers[0])
    if sort == "push":
        return len(numbers) == 2 and _is_units(numbers[0]) and _is_height(numbers[1])
    if sort in ("no", "rise"):
        return len(numbers) == 1 and _is_height(numbers[0])
    return sort == "yes" and len(numbers) == 0


def is_state(web, house, thing):
    """Whether a thing is a state of a house by its form."""
    check_house(web, house)
    if not is_tuple_of(6, thing):
        return False
    stage, height, held, streams, beliefs, sent = thing
    if not isinstance(stage, str) or stage not in ("asleep", "awake"):
        return False
    if not _is_height(height) or not is_int(held):
        return False
    around = neighbours(web, house)
    if not all([is_tuple_of(len(around), part) for part in (streams, beliefs, sent)]):
        return False
    if not all([_is_height(belief) for belief in beliefs]):
        return False
    return all([_fits(web, house, other, units, away) for other, units, away in zip(around, streams, sent)])


def _fits(web, house, other, units, away):
    """Whether a tie lets a stream through, with and without the units that are sent in it."""
    if not is_int(units) or not is_number(away):
        return False
    return units <= lets(web, house, other) and units - away >= -lets(web, other, house)


def begun(web, house):
    """The state in which a house begins."""
    around = neighbours(web, house)
    zeros = (0,) * len(around)
    if house == web.spring:
        return ("asleep", web.many, 0, zeros, zeros, zeros)
    beliefs = tuple([web.many if other == web.spring else 0 for other in around])
    woken_later = web.spring in around and lets(web, web.spring, house) > 0
    return ("asleep" if woken_later else "awake", 0, 0, zeros, beliefs, zeros)


def _rooms(web, house, state):
    """For each neighbour, ascending, how many more units the tie lets through to it."""
    return [lets(web, house, other) - units for other, units in zip(neighbours(web, house), state[3])]


def started(web, house, state):
    """The pair of the state behind the start of the spring, and what it sends."""
    check_house(web, house)
    if house != web.spring or state[0] != "asleep":
        raise NotSpring()
    rooms = _rooms(web, house, state)
    pours = [(other, ("pour", units)) for other, units in zip(neighbours(web, house), rooms) if units > 0]
    _, height, held, streams, beliefs, sent = state
    filled = tuple([units + more for units, more in zip(streams, rooms)])
    return (("awake", height, held - sum(rooms), filled, beliefs, sent), tuple(pours))


def heard(web, house, state, sender, word):
    """The pair of the state behind a word that a house hears from a sender, and what it sends."""
    check_house(web, house)
    check_house(web, sender)
    if not is_word(word) or not _can_hear(web, house, state, sender, word):
        raise NoWord()
    at = neighbours(web, house).index(sender)
    behind, answers = _done(state, at, word)
    out = [(sender, answer) for answer in answers]
    if behind[0] == "awake" and house not in (web.spring, web.mouth):
        behind, more = _acted(web, house, behind)
        out = out + more
    return (behind, tuple(out))


def _can_hear(web, house, state, sender, word):
    """Whether a house can hear a word of a sender now."""
    around = neighbours(web, house)
    if sender not in around or (house == web.spring and state[0] == "asleep"):
        return False
    at = around.index(sender)
    sort = word[0]
    if sort == "pour" and (sender != web.spring or state[0] == "awake"):
        return False
    if sort in ("pour", "push"):
        # What is sent to the sender has not come to it yet, for all that the house knows.
        return word[1] <= lets(web, sender, house) + state[3][at] - state[5][at]
    if sort in ("yes", "no"):
        return state[5][at] > 0
    return True


def _done(state, at, word):
    """The pair of the state behind a word of neighbour number at, and the tuple of the answers."""
    sort = word[0]
    if sort == "pour":
        return (_taken(_woken(state), at, word[1]), ())
    if sort == "push":
        believing = _believed(state, at, word[2])
        if word[2] == state[1] + 1:
            return (_taken(believing, at, word[1]), (("yes",),))
        return (believing, (("no", state[1]),))
    if sort == "yes":
        return (_answered(state, at), ())
    if sort == "no":
        return (_believed(_answered(_held_again(state, at), at), at, word[1]), ())
    return (_believed(state, at, word[1]), ())


def _put(numbers, at, number):
    """The tuple with another number in one place."""
    return numbers[:at] + (number,) + numbers[at + 1:]


def _woken(state):
    return ("awake",) + state[1:]


def _moved(state, at, units):
    """Units go from a house to a neighbour, or come from it, if they are below 0."""
    stage, height, held, streams, beliefs, sent = state
    return (stage, height, held - units, _put(streams, at, streams[at] + units), beliefs, sent)


def _taken(state, at, units):
    return _moved(state, at, -units)


def _held_again(state, at):
    return _moved(state, at, -state[5][at])


def _believed(state, at, told):
    stage, height, held, streams, beliefs, sent = state
    return (stage, height, held, streams, _put(beliefs, at, max(beliefs[at], told)), sent)


def _sent(state, at, units):
    return state[:5] + (_put(state[5], at, units),)


def _answered(state, at):
    return _sent(state, at, 0)


def _acted(web, house, state):
    """The pair of the state behind all that a house does by itself, and the list of what it sends."""
    behind = state
    out = []
    act = _next_act(web, house, behind)
    while act is not None:
        behind, words = act
        out.extend(words)
        act = _next_act(web, house, behind)
    return (behind, out)


def _next_act(web, house, state):
    """The pair of the state behind a push or a rise, and what is sent, None if neither is due."""
    height, held, _, beliefs, sent = state[1:]
    if held <= 0:
        return None
    rooms = _rooms(web, house, state)
    with_room = [at for at, units in enumerate(rooms) if units > 0]
    downhill = [at for at in with_room if sent[at] == 0 and beliefs[at] == height - 1]
    if downhill:
        return _pushing(web, house, state, downhill[0], min(held, rooms[downhill[0]]))
    if not with_room or any([units > 0 for units in sent]):
        return None
    return _rising(web, house, state, min([beliefs[at] for at in with_room]) + 1)


def _pushing(web, house, state, at, units):
    """What _next_act tells of a push of so many units to neighbour number at."""
    behind = _sent(_moved(state, at, units), at, units)
    return (behind, [(neighbours(web, house)[at], ("push", units, state[1]))])


def _rising(web, house, state, height):
    """What _next_act tells of a rise to a height."""
    if height <= state[1] or height >= HEIGHT_LIMIT:
        return None
    words = [(other, ("rise", height)) for other in neighbours(web, house)]
    return ((state[0], height) + state[2:], words)

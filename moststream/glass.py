"""The glass: what stands at a moment, what can be next, and the sums that always hold."""
from moststream.errors import NoGlass, NoMove, NoWord
from moststream.kinds import is_int, is_tuple_of
from moststream.states import begun, heard, is_state, is_word, started
from moststream.streams import check_stream, gain, room_each_way, units_each_way
from moststream.webs import are_tied, lets, neighbours

STAGE = 0
HEIGHT = 1
HELD = 2
STREAMS = 3
BELIEFS = 4
SENT = 5


def is_glass(web, thing):
    """Whether a thing is a glass by its form."""
    if not is_tuple_of(2, thing) or not is_tuple_of(web.many, thing[0]):
        return False
    return all([is_state(web, house, state) for house, state in enumerate(thing[0])]) and _are_ways(web, thing[1])


def _are_ways(web, thing):
    if not isinstance(thing, tuple) or not all([_is_way(web, item) for item in thing]):
        return False
    return all([one[:2] < other[:2] for one, other in zip(thing, thing[1:])])


def _is_way(web, thing):
    """Whether a thing is a triple of two neighbours and the words on their way from the one to the other."""
    if not is_tuple_of(3, thing) or not are_tied(web, thing[0], thing[1]):
        return False
    words = thing[2]
    return isinstance(words, tuple) and len(words) > 0 and all([is_word(word) for word in words])


def check_glass(web, glass):
    """NoGlass for what is no glass of the web."""
    if not is_glass(web, glass):
        raise NoGlass()


def first_glass(web):
    """The glass of all houses as they begin, with no word on its way."""
    return (tuple([begun(web, house) for house in range(web.many)]), ())


def first_glass_of(web, stream):
    """The glass in which a stream stands, and all else is as it begins."""
    check_stream(web, stream)
    return (tuple([_begun_amid(web, stream, house) for house in range(web.many)]), ())


def _begun_amid(web, stream, house):
    """The state in which a house begins where a stream stands."""
    first = begun(web, house)
    units_of = units_each_way(web, stream)
    streams = tuple([units_of[(house, other)] for other in neighbours(web, house)])
    woken_later = room_each_way(web, stream).get((web.spring, house), 0) > 0
    stage = "asleep" if house == web.spring or woken_later else "awake"
    return (stage, first[HEIGHT], gain(web, stream, house), streams, first[BELIEFS], first[SENT])


def words_each_way(glass):
    """For each pair of neighbours with words on their way from the one to the other, these words."""
    return {(sender, house): words for sender, house, words in glass[1]}


def spring_sleeps(web, glass):
    return glass[0][web.spring][STAGE] == "asleep"


def height_of(glass, house):
    return glass[0][house][HEIGHT]


def held_by(glass, house):
    return glass[0][house][HELD]


def next_moves(web, glass):
    """What moves tells, of what is known to be a glass."""
    starts = [("start", web.spring)] if spring_sleeps(web, glass) else []
    return tuple(starts + [("take", sender, house) for sender, house, _ in glass[1]])


def moves(web, glass):
    """The ascending tuple of what can be next."""
    check_glass(web, glass)
    return next_moves(web, glass)


def first_word(glass, move):
    """The word that a take takes, None where nothing is on its way."""
    words = words_each_way(glass).get((move[1], move[2]), ())
    return words[0] if len(words) > 0 else None


def made(web, glass, move):
    """The pair of the glass behind one of its moves, and what the house sends: NoWord if it can't hear the word."""
    states = glass[0]
    words_of = words_each_way(glass)
    house = move[-1]
    if move[0] == "start":
        state, out = started(web, house, states[house])
    else:
        way = move[1:]
        state, out = heard(web, house, states[house], move[1], first_word(glass, move))
        words_of[way] = words_of[way][1:]
    for other, word in out:
        words_of[(house, other)] = words_of.get((house, other), ()) + (word,)
    return ((states[:house] + (state,) + states[house + 1:], _ways(words_of)), out)


def _ways(words_of):
    """The ways of a glass, from what words_each_way tells; ways without words are none."""
    return tuple([(sender, house, words_of[(sender, house)]) for sender, house in sorted(words_of)
                  if len(words_of[(sender, house)]) > 0])


def moved(web, glass, move):
    """The glass behind a move."""
    check_glass(web, glass)
    return behind_move(web, glass, move)


def behind_move(web, glass, move):
    """What moved tells, of what is known to be a glass."""
    if not _may_be_move(move) or move not in next_moves(web, glass):
        raise NoMove()
    try:
        behind, _ = made(web, glass, move)
    except NoWord:
        raise NoMove()
    return behind


def _may_be_move(thing):
    """Whether a thing is a tuple with integers behind its first: to Python True would be house 1."""
    return isinstance(thing, tuple) and all([is_int(house) for house in thing[1:]])


def broken(web, glass):
    """The tuple of the words of the sums that do not hold."""
    check_glass(web, glass)
    sums = [
        ("houses", _houses_add_up(glass)),
        ("ties", _ties_add_up(web, glass)),
        ("sent", _sent_is_on_its_way(web, glass)),
        ("beliefs", _beliefs_hold(web, glass)),
        ("heights", _heights_hold(web, glass)),
        ("most", max([height_of(glass, house) for house in range(web.many)]) <= 2 * web.many - 1),
    ]
    return tuple([word for word, holds in sums if not holds])


def _each_way(web, glass, part):
    """For each pair of neighbours, both ways, what that part of the state of the one says of the other."""
    return {(house, other): number for house, state in enumerate(glass[0])
            for other, number in zip(neighbours(web, house), state[part])}


def streams_each_way(web, glass):
    """For each pair of neighbours, both ways, the stream from the one to the other as the one knows it."""
    return _each_way(web, glass, STREAMS)


def _houses_add_up(glass):
    return all([state[HELD] + sum(state[STREAMS]) == 0 for state in glass[0]])


def _ties_add_up(web, glass):
    streams = streams_each_way(web, glass)
    sent = _each_way(web, glass, SENT)
    words_of = words_each_way(glass)
    away = {(one, other): _units_away(words_of.get((one, other), ()), sent[(other, one)]) for one, other in streams}
    return all([streams[(one, other)] + streams[(other, one)] == away[(one, other)] + away[(other, one)]
                for one, other in streams])


def _units_away(words, sent_back):
    """The units that a way's words carry, and those that a no on it tells to be held again where it goes."""
    carried = sum([word[1] for word in words if word[0] in ("pour", "push")])
    refused = any([word[0] == "no" for word in words])
    return carried + (sent_back if refused else 0)


def _sent_is_on_its_way(web, glass):
    sent = _each_way(web, glass, SENT)
    words_of = words_each_way(glass)
    return all([_is_answered_once(sent[(one, other)], words_of.get((one, other), ()), words_of.get((other, one), ()))
                for one, other in sent])


def _is_answered_once(units, words, words_back):
    """Whether units that are sent are a push's among the words, or a yes or no comes back, and only one of these."""
    pushes = [word[1] for word in words if word[0] == "push"]
    answers = [word for word in words_back if word[0] in ("yes", "no")]
    if len(pushes) + len(answers) > 1:
        return False
    if pushes:
        return units == pushes[0]
    return (units > 0) == (len(answers) == 1)


def _beliefs_hold(web, glass):
    beliefs = _each_way(web, glass, BELIEFS)
    return all([beliefs[(one, other)] <= height_of(glass, other) for one, other in beliefs])


def _heights_hold(web, glass):
    if spring_sleeps(web, glass):
        return True
    streams = streams_each_way(web, glass)
    return all([height_of(glass, one) <= height_of(glass, other) + 1 for one, other in streams
                if streams[(one, other)] < lets(web, one, other)])

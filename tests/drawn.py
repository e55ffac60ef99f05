"""Things for the tests: drawn webs and streams, and objects of every kind."""
from moststream.desks import Desk
from moststream.disks import Disk
from moststream.errors import BadWeb, NoHouse
from moststream.films import Reel
from moststream.links import Incoming, Outgoing
from moststream.nets import Net
from moststream.posts import Post
from moststream.records import Record
from moststream.savings import SavedHouse
from moststream.webs import Web


class Draw:
    """Numbers that look drawn, the same ones each time."""

    def __init__(self, seed):
        self.state = seed * 7919 + 17

    def below(self, limit):
        for _ in range(2):
            self.state = (self.state * 6364136223846793005 + 1442695040888963407) % 2 ** 64
        return (self.state >> 33) % limit

    def among(self, least, greatest):
        return least + self.below(greatest - least + 1)

    def one_of(self, things):
        return things[self.below(len(things))]


def two_ends(draw, many):
    spring = draw.below(many)
    return spring, (spring + 1 + draw.below(many - 1)) % many


def drawn_pairs(draw, many, shape):
    pairs = [(a, b) for a in range(many) for b in range(a + 1, many)]
    if shape == "all":
        return pairs
    if shape == "none":
        return []
    if shape == "row":
        return [(a, a + 1) for a in range(many - 1)]
    if shape == "tree":
        return sorted((draw.below(b), b) for b in range(1, many))
    if shape == "apart":
        middle = many // 2
        return [(a, b) for a, b in pairs if (a < middle) == (b < middle)]
    return [pair for pair in pairs if draw.below(3)]


SHAPES = ("some", "some", "all", "row", "tree", "apart", "none")


def drawn_web(draw, many=None, most_units=9, shape=None):
    """A web of 2 to 10 houses; about one way in four lets nothing through."""
    many = many or draw.among(2, 10)
    pairs = drawn_pairs(draw, many, shape or draw.one_of(SHAPES))

    def units():
        return draw.below(most_units + 1) if draw.below(4) else 0
    ties = tuple((a, b, units(), units()) for a, b in pairs)
    return Web(many, ties, *two_ends(draw, many))


def drawn_stream(draw, web, rounds=8):
    """A stream: units go along drawn rings, and between spring and mouth either way."""
    units_of = {tie[:2]: 0 for tie in web.ties}
    for _ in range(rounds):
        start = draw.below(web.many)
        way = drawn_walk(draw, web, units_of, start)
        if way:
            units = draw.among(1, min(left(web, units_of, step) for step in way))
            for one, other in way:
                if one < other:
                    units_of[(one, other)] += units
                else:
                    units_of[(other, one)] -= units
    return tuple(units_of[tie[:2]] for tie in web.ties)


def left(web, units_of, step):
    one, other = step
    for a, b, there, back in web.ties:
        if (a, b) == (one, other):
            return there - units_of[(a, b)]
        if (a, b) == (other, one):
            return back + units_of[(a, b)]
    return 0


def drawn_walk(draw, web, units_of, start):
    """A walk with room that ends where it began, or goes between spring and mouth; perhaps none.

    Spring and mouth count as one place, so what closes a ring there may be a way between them.
    """
    def place(house):
        return web.spring if house == web.mouth else house
    steps, places = [], [place(start)]
    house = start
    while True:
        nexts = [other for other in range(web.many) if left(web, units_of, (house, other)) > 0
                 and not (steps and other == steps[-1][0])]
        if not nexts:
            return []
        other = draw.one_of(nexts)
        steps.append((house, other))
        if place(other) in places:
            return steps[places.index(place(other)):]
        places.append(place(other))
        house = other


def nested(depth, make):
    thing = make(())
    for _ in range(depth - 1):
        thing = make((thing,))
    return thing


def odd_things():
    """One of each built-in kind that may be passed, and some of this package."""
    web = Web(2, ((0, 1, 1, 1),), 0, 1)
    return [
        None, True, False, -1, 10 ** 19, -10 ** 19, "", "0", "many", "pour", "a" * 20000, b"", b"\x00", b"pour",
        bytearray(b"\x01"), memoryview(b"\x01"), (), [], {}, (0,), [0], {0: 1}, {"pour": 1}, (None,), (True,),
        (False, False), [0, 1], ((),), ([],), ({},), (b"pour", 1), ((0, 1), 1), [[0, 1], 1],
        nested(40, tuple), nested(40, list), nested(20, lambda inner: ([*inner],)), {0: nested(39, list)},
        (0,) * 20000, [0] * 20000, range(3), slice(1), iter(()), (one for one in ()), Ellipsis, NotImplemented,
        object(), object, int, len, drawn_web, ValueError("many"), ValueError, web, (web,), [web], Web,
        NoHouse(), BadWeb("many"), (BadWeb(()),), NoHouse,
        Record(web, ()), (Record(web, (("start", 0),)),), Outgoing(), Incoming(), [Outgoing()], ("take", Incoming()),
        Disk(), (Disk(),), Post(web, 1), [Post(web, 0)], SavedHouse(web, 0, Disk()),
        Net(web), (Net(web),), Reel(web, (), 1), [Reel(web, (), 1)], Desk(), (Desk(),),
    ]


def no_houses(many):
    """Things that are no house of a web of so many."""
    return [many, many + 1, (many - 1,), str(many - 1), [many - 1], *odd_things()]


def part_of(thing, at, other):
    """The tuple with another item in one place."""
    return thing[:at] + (other,) + thing[at + 1:]


def drawn_choices(draw):
    """Choices, a list or a tuple: none, few or many of them, small ones, or some of twenty figures."""
    limit = draw.one_of((2, 7, 100, 10 ** 9))
    choices = [draw.below(limit) for _ in range(draw.one_of((0, 3, 40, 1500)))]
    if draw.below(3) == 0:
        choices = [10 ** 20 - 1 - choice for choice in choices]
    return draw.one_of((list, tuple))(choices)


def pours_late(glass, moves):
    """A move of a glass that takes no pour, if there is one."""
    words = {way[:2]: way[2][0][0] for way in glass[1]}
    return next((move for move in moves if words.get(move[1:]) != "pour"), moves[0])


def orders(draw):
    """Ways to choose one of the moves of a glass, by name."""
    return {
        "least": lambda glass, moves: moves[0],
        "last": lambda glass, moves: moves[-1],
        "drawn": lambda glass, moves: draw.one_of(moves),
        "pours late": pours_late,
    }

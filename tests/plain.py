"""Plain readings of the document, to hold the program against."""
from itertools import combinations, product


def tie_of(web, one, other):
    """The pair of what the tie lets through from the one to the other, and back, or None."""
    for a, b, there, back in web.ties:
        if (a, b) == (one, other):
            return there, back
        if (a, b) == (other, one):
            return back, there
    return None


def around(web, house):
    return [other for other in range(web.many) if tie_of(web, house, other) is not None]


def goes(web, stream, one, other):
    """The units that a stream has from the one to the other, below 0 if they go the other way."""
    for (a, b, _, _), units in zip(web.ties, stream):
        if (a, b) == (one, other):
            return units
        if (a, b) == (other, one):
            return -units
    return 0


def gains(web, stream):
    gain = [0] * web.many
    for (a, b, _, _), units in zip(web.ties, stream):
        gain[a] -= units
        gain[b] += units
    return gain


def keeps(web, stream):
    """Whether as many come as go, but at spring and mouth."""
    return not any(gain for house, gain in enumerate(gains(web, stream)) if house not in (web.spring, web.mouth))


def all_streams(web):
    for stream in product(*[range(-back, there + 1) for _, _, there, back in web.ties]):
        if keeps(web, stream):
            yield stream


def all_sides(web):
    others = [house for house in range(web.many) if house not in (web.spring, web.mouth)]
    for size in range(len(others) + 1):
        for chosen in combinations(others, size):
            yield tuple(sorted((web.spring,) + chosen))


def worth_of_side(web, side):
    return sum(tie_of(web, one, other)[0] for one in side for other in around(web, one) if other not in side)


def least_side(web):
    """The least worth of a side: no stream is worth more, and one is worth as much."""
    return min(worth_of_side(web, side) for side in all_sides(web))


def why_no_split(web, stream, thing):
    """The first words of [1.4] that do not hold of a thing, None if all hold."""
    total = gains(web, stream)[web.mouth]
    if total < 0:
        return "worth"
    if not isinstance(thing, tuple):
        return "tuple"
    used = {}
    units_of_all = 0
    for part in thing:
        if not isinstance(part, tuple) or len(part) != 2 or not isinstance(part[0], tuple):
            return "pair"
        way, units = part
        if [house for house in way if not isinstance(house, int) or isinstance(house, bool)]:
            return "house"
        if not way or way[0] != web.spring or way[-1] != web.mouth:
            return "ends"
        if len(way) != len({house: True for house in way}):
            return "twice"
        if not isinstance(units, int) or isinstance(units, bool) or units < 1:
            return "units"
        for one, other in zip(way, way[1:]):
            if tie_of(web, one, other) is None:
                return "neighbour"
            used[one, other] = used.get((one, other), 0) + units
        units_of_all += units
    if len(thing) > len(web.ties):
        return "many"
    if [1 for (one, other), units in used.items() if units > goes(web, stream, one, other)]:
        return "over"
    return None if units_of_all == total else "all"


class House:
    """A house that does what [2.2] and [2.3] say, kept as lists and dicts by neighbour."""

    def __init__(self, web, number, state):
        self.web, self.number = web, number
        self.near = around(web, number)
        self.stage, self.height, self.held = state[:3]
        self.streams, self.beliefs, self.sent = [dict(zip(self.near, part)) for part in state[3:]]
        self.out = []

    def told(self):
        rows = [tuple(row[other] for other in self.near) for row in (self.streams, self.beliefs, self.sent)]
        return ((self.stage, self.height, self.held, *rows), tuple(self.out))

    def room(self, other):
        return tie_of(self.web, self.number, other)[0] - self.streams[other]

    def start(self):
        self.stage = "awake"
        for other in self.near:
            room = self.room(other)
            if room:
                self.out.append((other, ("pour", room)))
                self.streams[other] += room
                self.held -= room

    def refuses(self, sender, word):
        if sender not in self.near:
            return True
        asleep = self.stage == "asleep"
        if asleep and self.number == self.web.spring:
            return True
        sort = word[0]
        back = tie_of(self.web, self.number, sender)[1] + self.streams[sender] - self.sent[sender]
        return {
            "pour": lambda: sender != self.web.spring or not asleep or word[1] > back,
            "push": lambda: word[1] > back,
            "yes": lambda: self.sent[sender] == 0,
            "no": lambda: self.sent[sender] == 0,
            "rise": lambda: False,
        }[sort]()

    def take(self, sender, units):
        self.held += units
        self.streams[sender] -= units

    def believe(self, sender, height):
        if height > self.beliefs[sender]:
            self.beliefs[sender] = height

    def hear(self, sender, word):
        sort = word[0]
        if sort == "pour":
            self.stage = "awake"
            self.take(sender, word[1])
        elif sort == "push":
            self.believe(sender, word[2])
            if word[2] == self.height + 1:
                self.take(sender, word[1])
                self.out.append((sender, ("yes",)))
            else:
                self.out.append((sender, ("no", self.height)))
        elif sort == "yes":
            self.sent[sender] = 0
        elif sort == "no":
            self.held += self.sent[sender]
            self.streams[sender] -= self.sent[sender]
            self.sent[sender] = 0
            self.believe(sender, word[1])
        else:
            self.believe(sender, word[1])
        if self.number not in (self.web.spring, self.web.mouth) and self.stage == "awake":
            self.act()

    def act(self):
        while self.held > 0:
            free = [other for other in self.near if self.room(other) > 0]
            fit = [other for other in free if not self.sent[other] and self.beliefs[other] == self.height - 1]
            if fit:
                other = min(fit)
                units = min(self.held, self.room(other))
                self.held -= units
                self.streams[other] += units
                self.sent[other] = units
                self.out.append((other, ("push", units, self.height)))
                continue
            if any(self.sent.values()) or not free:
                return
            height = 1 + min(self.beliefs[other] for other in free)
            if height <= self.height or height >= 1000:
                return
            self.height = height
            self.out.extend((other, ("rise", height)) for other in self.near)

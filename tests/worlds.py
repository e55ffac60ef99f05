"""Plain readings of [3] to [5]: glasses and records, kept as houses, lists and dicts that change."""
from tests.plain import House, around, gains, goes, tie_of

ASLEEP, AWAKE = "asleep", "awake"
SORTS = ("pour", "push", "yes", "no", "rise")


class World:
    """All houses of a web, and for each way the words on it, each with the event in which it was sent."""

    def __init__(self, web, stream=None):
        self.web = web
        self.stream = stream or (0,) * len(web.ties)
        self.houses = [House(web, number, self.first_state(number)) for number in range(web.many)]
        self.queues = {(one, other): [] for one in range(web.many) for other in around(web, one)}
        self.counts = dict.fromkeys(SORTS, 0)

    def first_state(self, number):
        web = self.web
        near = around(web, number)
        streams = tuple(goes(web, self.stream, number, other) for other in near)
        zeros = tuple(0 for _ in near)
        if number == web.spring:
            return (ASLEEP, web.many, gains(web, self.stream)[number], streams, zeros, zeros)
        wakes = web.spring in near and \
            tie_of(web, web.spring, number)[0] > goes(web, self.stream, web.spring, number)
        beliefs = tuple(web.many if other == web.spring else 0 for other in near)
        return (ASLEEP if wakes else AWAKE, 0, gains(web, self.stream)[number], streams, beliefs, zeros)

    def glass(self):
        ways = tuple((*way, tuple(word for word, _ in self.queues[way]))
                     for way in sorted(self.queues) if self.queues[way])
        return tuple(house.told()[0] for house in self.houses), ways

    def moves(self):
        starts = [("start", self.web.spring)] if self.houses[self.web.spring].stage == ASLEEP else []
        return tuple(starts + [("take", *way) for way in sorted(self.queues) if self.queues[way]])

    def do(self, move, event=None):
        """Makes a move; returns the pair of the word that is taken, and the event in which it was sent."""
        house = self.houses[move[-1]]
        taken = None, None
        if move[0] == "start":
            house.start()
        else:
            taken = self.queues[move[1:]].pop(0)
            house.hear(move[1], taken[0])
            self.counts[taken[0][0]] += 1
        for other, word in house.out:
            self.queues[move[-1], other].append((word, event))
        house.out = []
        return taken


def plain_broken(web, glass):
    """[3.2], sum by sum."""
    houses = [House(web, number, state) for number, state in enumerate(glass[0])]
    words = {(one, other): [] for one in range(web.many) for other in around(web, one)}
    for one, other, line in glass[1]:
        words[one, other] = list(line)
    found = set()
    for one in range(web.many):
        if houses[one].held != -sum(houses[one].streams.values()):
            found.add("houses")
        if houses[one].height > 2 * web.many - 1:
            found.add("most")
        for other in around(web, one):
            if houses[one].beliefs[other] > houses[other].height:
                found.add("beliefs")
            if houses[web.spring].stage == AWAKE and houses[one].room(other) > 0 and \
                    houses[one].height - houses[other].height > 1:
                found.add("heights")
            if not plain_sent(houses[one].sent[other], words[one, other], words[other, one]):
                found.add("sent")
            due = 0
            for x, y in ((one, other), (other, one)):
                due += sum(word[1] for word in words[x, y] if word[0] in ("pour", "push"))
                if "no" in [word[0] for word in words[x, y]]:
                    due += houses[y].sent[x]
            if houses[one].streams[other] + houses[other].streams[one] != due:
                found.add("ties")
    return tuple(word for word in ("houses", "ties", "sent", "beliefs", "heights", "most") if word in found)


def plain_sent(units, there, back):
    on_way = [word for word in there if word[0] == "push"] + [word for word in back if word[0] in ("yes", "no")]
    if not on_way:
        return units == 0
    if len(on_way) > 1:
        return False
    return units == on_way[0][1] if on_way[0][0] == "push" else units > 0


class Story:
    """What [5] tells of the events of a record, read event by event."""

    def __init__(self, web, events):
        self.web, self.done = web, []
        self.direct, self.glasses = [], []
        self.wrong = None
        self.units = {}
        world = World(web)
        self.glasses.append(world.glass())
        last = {}
        for index, event in enumerate(events):
            fault = self.fault(world, event)
            if fault and self.wrong is None:
                self.wrong = (index, fault)
            if fault and fault != "early":
                break
            self.tell(world, last, index, event)
            self.glasses.append(world.glass())
        self.all = self.closures()

    def fault(self, world, event):
        if event[0] == "start":
            awake = world.houses[self.web.spring].stage == AWAKE
            return "awake" if awake or event[1] != self.web.spring else None
        if event[0] == "still":
            return "early" if world.houses[event[1]].held else None
        queue = world.queues[event[1:3]]
        if not queue:
            return "empty"
        return None if queue[0][0] == event[3] else "other"

    def tell(self, world, last, index, event):
        house = house_of(event)
        because = {last[house]} if house in last else set()
        if event[0] != "still":
            streams = dict(world.houses[house].streams)
            height = world.houses[house].height
            word, sent_in = world.do(event[:3], index)
            if word:
                because.add(sent_in)
                if word[0] == "pour" or (word[0] == "push" and word[2] == height + 1):
                    way = event[1:3]
                    self.units[way] = self.units.get(way, 0) + word[1]
                elif word[0] != "no":
                    assert world.houses[house].streams[event[1]] >= streams[event[1]]
        last[house] = index
        self.done.append(event)
        self.direct.append(because)

    def closures(self):
        """For each event all events that cause it, perhaps through others."""
        found = []
        for because in self.direct:
            found.append(because.union(*[found[index] for index in because]))
        return found

    def vectors(self):
        return tuple(tuple(sum(house_of(self.done[other]) == house for other in because | {index})
                           for house in range(self.web.many)) for index, because in enumerate(self.all))

    def longest(self):
        lengths = []
        for because in self.all:
            lengths.append(1 + max((lengths[index] for index in because), default=0))
        return max(lengths, default=0)

    def seen(self, house):
        return tuple(event for event in self.done if house_of(event) == house)

    def least_first(self):
        """The events that can be done, again and again the next one of the least house that can."""
        left = {house: [index for index, event in enumerate(self.done) if house_of(event) == house]
                for house in range(self.web.many)}
        order = []
        while any(left.values()):
            house = next(house for house in sorted(left)
                         if left[house] and self.all[left[house][0]] <= set(order))
            order.append(left[house].pop(0))
        return tuple(self.done[index] for index in order)


def house_of(event):
    return {"start": lambda: event[1], "still": lambda: event[1], "take": lambda: event[2]}[event[0]]()


def plain_recorded(web, choices):
    """[5.1] of recorded, without the limit."""
    world = World(web)
    events = []
    choices = list(choices)
    while world.moves():
        moves = world.moves()
        move = moves[choices.pop(0) % len(moves)] if choices else min(moves)
        house = world.houses[move[-1]]
        ahead = house.held
        word, _ = world.do(move)
        events.append((*move, word) if word else move)
        if word and house.number not in (web.spring, web.mouth) and ahead and not house.held:
            events.append(("still", house.number))
    return tuple(events)

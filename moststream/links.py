"""The ends of links: things are put at the one, and taken at the other, in order, each once."""
from moststream.errors import NoNumber, NoState
from moststream.kinds import is_number, is_number_below, is_tuple_of

NUMBER_LIMIT = 4294967296
HELD_AHEAD = 1000


def is_link_number(thing):
    """Whether a thing is a number that a thing on a link can have."""
    return is_number_below(NUMBER_LIMIT, thing)


class Outgoing:
    """The end of a link at which things are put; those wait that are not known to be taken."""

    def __init__(self):
        self.let_go = 0
        self.things = []

    def put(self, thing):
        """One more thing, behind the others: its number."""
        self.things.append(thing)
        return self.many_put() - 1

    def known(self, number):
        """Things of lesser numbers are taken: how many are let go of."""
        if not is_number(number) or number > self.many_put():
            raise NoNumber()
        newly = max(number - self.let_go, 0)
        self.let_go += newly
        self.things = self.things[newly:]
        return newly

    def waiting(self):
        """The list of the pairs of number and thing of those that wait."""
        return list(enumerate(self.things, start=self.let_go))

    def many_put(self):
        """How many things were put."""
        return self.let_go + len(self.things)

    def state(self):
        """The pair of how many things are known to be taken, and the tuple of those that wait."""
        return (self.let_go, tuple(self.things))

    def copy(self):
        """Another one with this state, that goes on apart."""
        return _outgoing(self.let_go, self.things)


def _outgoing(let_go, things):
    """The end of which so many things are let go of, and these wait."""
    end = Outgoing()
    end.let_go = let_go
    end.things = list(things)
    return end


def is_outgoing_state(thing):
    """Whether a thing is the state of an Outgoing by its form."""
    if not is_tuple_of(2, thing) or not is_link_number(thing[0]) or not isinstance(thing[1], tuple):
        return False
    return all([_is_thing(item) for item in thing[1]])


def outgoing_of(state):
    """An Outgoing with this state."""
    if not is_outgoing_state(state):
        raise NoState()
    return _outgoing(state[0], state[1])


def _is_thing(thing):
    """Whether a thing is a tuple of integers, flags, strings, None and such tuples."""
    if not isinstance(thing, tuple):
        return False
    left = [thing]
    while left:
        inner = left.pop()
        for item in inner:
            if isinstance(item, tuple):
                left.append(item)
            elif item is not None and not isinstance(item, (int, str)):
                return False
    return True


class Incoming:
    """The other end of a link: things are taken as they were put, those ahead of a gap are held."""

    def __init__(self):
        self.many = 0
        self.ahead = {}

    def take(self, number, thing):
        """Hears a thing with its number: the list of the things that are taken now."""
        if not is_link_number(number):
            raise NoNumber()
        if self.many <= number < self.many + HELD_AHEAD and number not in self.ahead:
            self.ahead[number] = thing
        newly = []
        while self.many in self.ahead:
            newly.append(self.ahead.pop(self.many))
            self.many += 1
        return newly

    def taken(self):
        """How many things are taken."""
        return self.many

    def held(self):
        """The lot of the numbers that are held."""
        return tuple(sorted(self.ahead))

    def state(self):
        """The pair of how many things are taken, and the tuple of the pairs of number and thing held."""
        return (self.many, tuple([(number, self.ahead[number]) for number in self.held()]))

    def copy(self):
        """Another one with this state, that goes on apart."""
        return _incoming(self.state())


def _incoming(state):
    """The end with a state that is known to be one."""
    end = Incoming()
    end.many = state[0]
    for number, thing in state[1]:
        end.ahead[number] = thing
    return end


def is_incoming_state(thing):
    """Whether a thing is the state of an Incoming by its form."""
    if not is_tuple_of(2, thing) or not is_link_number(thing[0]):
        return False
    return _can_be_held(thing[0], thing[1])


def incoming_of(state):
    """An Incoming with this state."""
    if not is_incoming_state(state):
        raise NoState()
    return _incoming(state)


def _can_be_held(many, pairs):
    """Whether these are pairs of number and thing, rising, as they can be held where so many are taken."""
    if not isinstance(pairs, tuple) or not all([_is_numbered(pair) for pair in pairs]):
        return False
    numbers = [many] + [pair[0] for pair in pairs]
    return all([one < other for one, other in zip(numbers, numbers[1:])]) and numbers[-1] < many + HELD_AHEAD


def _is_numbered(thing):
    return is_tuple_of(2, thing) and is_number(thing[0]) and _is_thing(thing[1])

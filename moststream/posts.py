"""Houses that last: a live house with the ends of the links to its neighbours, its letters and its past."""
from moststream.errors import NoDeed, NoHouse, NoPast, NotSpring, NoWord
from moststream.kinds import is_int, is_number_below, is_tuple_of
from moststream.links import (Incoming, Outgoing, incoming_of, is_incoming_state, is_link_number, is_outgoing_state,
                              outgoing_of)
from moststream.rows import sealed, unsealed
from moststream.states import begun, heard, is_state, is_word, started
from moststream.webs import are_tied, neighbours

MOST_ITEMS = 20


class Post:
    """A live house: its state, and for each neighbour the ends of the links to it and from it."""

    def __init__(self, web, number):
        self.now = begun(web, number)
        self.web = web
        self.number = number
        self.outs = {other: Outgoing() for other in neighbours(web, number)}
        self.ins = {other: Incoming() for other in neighbours(web, number)}

    def state(self):
        """The state of the house."""
        return self.now

    def past(self):
        """The triple of the state, and for each neighbour the outgoing and the incoming state."""
        around = neighbours(self.web, self.number)
        outs = tuple([self.outs[other].state() for other in around])
        ins = tuple([self.ins[other].state() for other in around])
        return (self.now, outs, ins)

    def letter(self, to):
        """The sealed row of the letter to a neighbour."""
        self.check_neighbour(to)
        items = tuple(self.waiting_for(to)[:MOST_ITEMS])
        return sealed(("letter", self.number, to, self.taken_from(to), items))

    def deed(self, thing):
        """Does a deed: None for a start, for a letter a word of what came of it."""
        # Done apart at first, so that what can't be done changes nothing.
        behind = self.copy()
        if thing == ("start",):
            behind.do_start()
            self.go_on_as(behind)
            return None
        if not is_tuple_of(2, thing) or thing[0] != "hear":
            raise NoDeed()
        letter = self.letter_in(thing[1])
        if letter is None or not behind.could_hear(letter):
            return "none"
        answer = "old" if behind.past() == self.past() else "new"
        self.go_on_as(behind)
        return answer

    def copy(self):
        """Another Post with this past, that goes on apart."""
        other = Post(self.web, self.number)
        other.now = self.now
        other.outs = {to: end.copy() for to, end in self.outs.items()}
        other.ins = {sender: end.copy() for sender, end in self.ins.items()}
        return other

    def check_neighbour(self, house):
        """NoHouse for what is no house, or none that is tied to this one."""
        if not are_tied(self.web, self.number, house):
            raise NoHouse()

    def waiting_for(self, to):
        """The list of the pairs of number and word that wait for a neighbour."""
        return self.outs[to].waiting()

    def taken_from(self, sender):
        """How many words are taken from a neighbour."""
        return self.ins[sender].taken()

    def go_on_as(self, other):
        """Takes over all from another Post of this house, which nobody leads any more."""
        self.now = other.now
        self.outs = other.outs
        self.ins = other.ins

    def send(self, out):
        """Puts what the house sends into its links."""
        for to, word in out:
            self.outs[to].put(word)

    def do_start(self):
        """The spring starts: NoDeed if it can't."""
        try:
            self.now, out = started(self.web, self.number, self.now)
        except NotSpring:
            raise NoDeed()
        self.send(out)

    def letter_in(self, row):
        """The letter for this house of which a thing is the sealed row, None if there is none."""
        told = unsealed(row)
        if len(told) == 0 or not is_tuple_of(5, told[0]) or told[0][0] != "letter":
            return None
        _, sender, to, taken, items = told[0]
        if not are_tied(self.web, sender, self.number) or not is_int(to) or to != self.number:
            return None
        if not is_number_below(self.outs[sender].many_put() + 1, taken) or not _are_items(items):
            return None
        return told[0]

    def could_hear(self, letter):
        """Hears a letter, as far as it can: whether each word that it takes by it is one then."""
        _, sender, _, taken, items = letter
        self.outs[sender].known(taken)
        words = []
        for number, word in items:
            words.extend(self.ins[sender].take(number, word))
        for word in words:
            if not self.could_take(sender, word):
                return False
        return True

    def could_take(self, sender, word):
        """Hears a word of a neighbour: whether it is one then."""
        try:
            self.now, out = heard(self.web, self.number, self.now, sender, word)
        except NoWord:
            return False
        self.send(out)
        return True


def _are_items(thing):
    """Whether a thing is a tuple of as many pairs of number and word as a letter can have."""
    if not isinstance(thing, tuple) or len(thing) > MOST_ITEMS:
        return False
    return all([is_tuple_of(2, item) and is_link_number(item[0]) and is_word(item[1]) for item in thing])


def post_of(web, number, past):
    """The Post of a house with this past."""
    post = Post(web, number)
    if not _is_past(web, number, past):
        raise NoPast()
    around = neighbours(web, number)
    post.now = past[0]
    post.outs = {other: outgoing_of(state) for other, state in zip(around, past[1])}
    post.ins = {other: incoming_of(state) for other, state in zip(around, past[2])}
    return post


def _is_past(web, number, thing):
    """Whether a thing is a past of a house by its form."""
    if not is_tuple_of(3, thing) or not is_state(web, number, thing[0]):
        return False
    many = len(neighbours(web, number))
    if not is_tuple_of(many, thing[1]) or not is_tuple_of(many, thing[2]):
        return False
    return all([_is_out(state) for state in thing[1]]) and all([_is_in(state) for state in thing[2]])


def _is_out(thing):
    """Whether a thing is an outgoing state of words."""
    return is_outgoing_state(thing) and all([is_word(word) for word in thing[1]])


def _is_in(thing):
    """Whether a thing is an incoming state of words."""
    return is_incoming_state(thing) and all([is_word(word) for _, word in thing[1]])

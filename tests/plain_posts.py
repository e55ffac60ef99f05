"""A plain account of [8.1]: a house as tests.plain has it, with lists of all words sent and dicts of those heard."""
import copy

from tests.plain import House, around
from tests.plain_rows import plain_read, plain_sealed
from tests.worlds import World

NUMBERS = {"pour": ("units",), "push": ("units", "height"), "yes": (), "no": ("height",), "rise": ("height",)}
LIMITS = {"units": range(1, 10 ** 9), "height": range(1000)}


def integer(thing):
    return type(thing) is int


def plain_word(thing):
    """Whether a thing is a word by the form of [2.1]."""
    if type(thing) is not tuple or not thing or type(thing[0]) is not str or thing[0] not in NUMBERS:
        return False
    limits = [LIMITS[name] for name in NUMBERS[thing[0]]]
    return len(thing) == len(limits) + 1 and all(integer(number) and number in limit
                                                 for number, limit in zip(thing[1:], limits))


class PlainPost:
    def __init__(self, web, number):
        self.web, self.number = web, number
        self.house = World(web).houses[number]
        self.near = around(web, number)
        self.sent = {other: [] for other in self.near}
        self.let_go = dict.fromkeys(self.near, 0)
        self.taken = dict.fromkeys(self.near, 0)
        self.ahead = {other: {} for other in self.near}

    def copy(self):
        other = copy.copy(self)
        web, self.house.web = self.house.web, None
        for name in ("house", "sent", "let_go", "taken", "ahead"):
            setattr(other, name, copy.deepcopy(getattr(self, name)))
        self.house.web = other.house.web = web
        return other

    def state(self):
        return self.house.told()[0]

    def past(self):
        outs = tuple((self.let_go[other], tuple(self.sent[other][self.let_go[other]:])) for other in self.near)
        ins = tuple((self.taken[other], tuple(sorted(self.ahead[other].items()))) for other in self.near)
        return self.state(), outs, ins

    def letter(self, to):
        waiting = list(enumerate(self.sent[to]))[self.let_go[to]:]
        return "letter", self.number, to, self.taken[to], tuple(waiting[:20])

    def post(self):
        for to, word in self.house.out:
            self.sent[to].append(word)
        self.house.out = []

    def can_start(self):
        return self.number == self.web.spring and self.house.stage == "asleep"

    def start(self):
        self.house.start()
        self.post()

    def reads(self, row):
        """The letter for this house that a row tells, or None."""
        letter, wrong = plain_read(row[:-4]) if len(row) > 4 else (None, 0)
        if wrong is not None or plain_sealed(letter) != row:
            return None
        if type(letter) is not tuple or len(letter) != 5 or letter[0] != "letter":
            return None
        _, sender, to, taken, items = letter
        if not integer(sender) or sender not in self.near or not integer(to) or to != self.number:
            return None
        if not integer(taken) or not 0 <= taken <= len(self.sent[sender]):
            return None
        if type(items) is not tuple or len(items) > 20:
            return None
        for item in items:
            if type(item) is not tuple or len(item) != 2 or not integer(item[0]) or item[0] not in range(2 ** 32) \
                    or not plain_word(item[1]):
                return None
        return letter

    def hear(self, row):
        """The pair of the word that is answered, and the PlainPost behind it."""
        letter = self.reads(row)
        if letter is None:
            return "none", self
        _, sender, _, taken, items = letter
        other = self.copy()
        other.let_go[sender] = max(taken, self.let_go[sender])
        for number, word in items:
            if number in range(other.taken[sender], other.taken[sender] + 1000):
                other.ahead[sender].setdefault(number, word)
            while other.taken[sender] in other.ahead[sender]:
                word = other.ahead[sender].pop(other.taken[sender])
                other.taken[sender] += 1
                if other.house.refuses(sender, word):
                    return "none", self
                other.house.hear(sender, word)
                other.post()
        return ("old" if other.past() == self.past() else "new"), other


def plain_post_of(web, number, past):
    """The PlainPost with what is known to be a past; of words that are let go of nothing is known but how many."""
    post = PlainPost(web, number)
    state, outs, ins = past
    post.house = House(web, number, state)
    for other, (let_go, words), (taken, held) in zip(post.near, outs, ins):
        post.sent[other] = [None] * let_go + list(words)
        post.let_go[other] = let_go
        post.taken[other] = taken
        post.ahead[other] = dict(held)
    return post

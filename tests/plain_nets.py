"""A plain account of [8.2] and [9]: plain posts over plain disks, and a net of them."""
from moststream.errors import NoPast
from moststream.posts import post_of
from tests.plain import around
from tests.plain_posts import PlainPost, plain_post_of
from tests.plain_rows import PlainDisk, plain_mark, plain_read, plain_sealed


def plain_first(web, number):
    """The first block of a house's disk."""
    lines = [f"houses {web.many} {web.spring} {web.mouth}"] + ["tie {} {} {} {}".format(*tie) for tie in web.ties]
    signs = tuple("".join(line + "\n" for line in lines).encode("ascii"))
    return plain_sealed(("house", plain_mark(signs), number))


def plain_unsealed(row):
    """The list of the parcel of which a row is sealed, or of none."""
    parcel, wrong = plain_read(row[:-4]) if len(row) > 4 else (None, 0)
    return [parcel] if wrong is None and plain_sealed(parcel) == row else []


class PlainSaved:
    """A plain post, and the disk on which its deeds are noted."""

    def __init__(self, web, number, disk):
        self.web, self.number, self.disk = web, number, disk
        if disk.blocks()[:1] != [plain_first(web, number)]:
            disk.drop(0)
            disk.write(plain_first(web, number))
        self.post = PlainPost(web, number)
        good = 1
        for block in disk.blocks()[1:]:
            behind = self.behind(block)
            if behind is None:
                break
            self.post = behind
            good += 1
        disk.drop(good)
        disk.sync()

    def behind(self, block):
        """The plain post behind a block, None if it is to be dropped."""
        for parcel in plain_unsealed(block):
            if type(parcel) is not tuple or len(parcel) != 2:
                return None
            if parcel[0] == "past":
                try:
                    post_of(self.web, self.number, parcel[1])
                except NoPast:
                    return None
                return plain_post_of(self.web, self.number, parcel[1])
            if parcel[0] == "deed" and parcel[1] == ("start",) and self.post.can_start():
                other = self.post.copy()
                other.start()
                return other
            if parcel[0] == "deed" and type(parcel[1]) is tuple and len(parcel[1]) == 2 and parcel[1][0] == "hear" \
                    and type(parcel[1][1]) is tuple and all(type(byte) is int and 0 <= byte < 256
                                                            for byte in parcel[1][1]):
                answer, other = self.post.hear(parcel[1][1])
                return other if answer == "new" else None
        return None

    def start(self):
        self.post.start()
        self.disk.write(plain_sealed(("deed", ("start",))))

    def hear(self, row):
        answer, self.post = self.post.hear(row)
        if answer == "new":
            self.disk.write(plain_sealed(("deed", ("hear", row))))
        return answer

    def letter(self, to):
        self.disk.sync()
        return plain_sealed(self.post.letter(to))

    def keep(self):
        self.disk.write(plain_sealed(("past", self.post.past())))
        self.disk.sync()
        return len(self.disk.blocks())


class PlainNet:
    def __init__(self, web):
        self.web = web
        self.houses = [PlainSaved(web, number, PlainDisk()) for number in range(web.many)]
        self.bag = []
        self.ways = [(one, other) for one in range(web.many) for other in around(web, one)]

    def glass(self):
        ways = []
        for one, other in self.ways:
            words = self.houses[one].post.sent[other][self.houses[other].post.taken[one]:]
            if words:
                ways.append((one, other, tuple(words)))
        return tuple(house.post.state() for house in self.houses), tuple(ways)

    def taken(self):
        """How many words of each sort are taken, as the links tell; needs all words that were sent."""
        counts = dict.fromkeys(("pour", "push", "yes", "no", "rise"), 0)
        for one, other in self.ways:
            for word in self.houses[one].post.sent[other][:self.houses[other].post.taken[one]]:
                counts[word[0]] += 1
        return tuple(counts.values())

    def cut(self, number, kept):
        """Whether it could be cut."""
        could = self.houses[number].disk.cut(kept)
        if could:
            ahead = self.houses[number].post
            self.houses[number] = PlainSaved(self.web, number, self.houses[number].disk)
            self.remember(self.houses[number].post, ahead)
        return could

    def remember(self, post, ahead):
        """Puts words that a past does not tell any more, since they are let go of, back into the account."""
        for other in post.near:
            let_go = post.let_go[other]
            post.sent[other][:let_go] = ahead.sent[other][:let_go]

    def waits(self, one, other):
        post = self.houses[one].post
        return len(post.sent[other]) > post.let_go[other]

    def round_trip(self):
        if self.houses[self.web.spring].post.can_start():
            self.houses[self.web.spring].start()
        for one, other in self.ways:
            while self.waits(one, other):
                self.houses[other].hear(self.houses[one].letter(other))
                self.houses[one].hear(self.houses[other].letter(one))

    def is_settled(self):
        return not self.houses[self.web.spring].post.can_start() and not any(self.waits(*way) for way in self.ways)

    def do(self, thing):
        """Does a deed: the list of what it returns, an empty one if it can't be done."""
        sort, parts = thing[0], thing[1:]
        if sort in ("start", "keep", "cut") and not integer_below(parts[0], self.web.many):
            return []
        if sort in ("bring", "lose", "double", "spoil") and not integer_below(parts[0], len(self.bag)):
            return []
        return getattr(self, "do_" + sort)(*parts)

    def do_start(self, number):
        if not self.houses[number].post.can_start():
            return []
        self.houses[number].start()
        return [None]

    def do_keep(self, number):
        return [self.houses[number].keep()]

    def do_post(self, one, other):
        if (one, other) not in self.ways:
            return []
        self.bag.append((other, self.houses[one].letter(other)))
        return [None]

    def do_bring(self, k):
        to, row = self.bag.pop(k)
        return [self.houses[to].hear(row)]

    def do_lose(self, k):
        self.bag.pop(k)
        return [None]

    def do_double(self, k):
        self.bag.append(self.bag[k])
        return [None]

    def do_spoil(self, k, at, byte):
        to, row = self.bag[k]
        if not integer_below(at, len(row)) or not integer_below(byte, 256):
            return []
        other = row[:at] + (byte,) + row[at + 1:]
        if other != row and plain_unsealed(other):
            return []
        self.bag[k] = (to, other)
        return [None]

    def do_send(self, to, row):
        if not integer_below(to, self.web.many) or type(row) is not tuple or plain_unsealed(row):
            return []
        self.bag.append((to, row))
        return [None]

    def do_cut(self, number, kept):
        return [None] if self.cut(number, kept) else []


def integer_below(thing, limit):
    return type(thing) is int and 0 <= thing < limit

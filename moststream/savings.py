"""Houses whose past lasts: each deed is noted on a disk, and what is made of the disk goes on from there."""
from moststream.disks import Disk
from moststream.errors import NoDeed, NoDisk, NoPast, OtherHouse
from moststream.kinds import is_tuple_of
from moststream.posts import Post, post_of
from moststream.rows import mark, sealed, unsealed
from moststream.texts import web_text


class SavedHouse(Post):
    """A Post over a disk: its deeds are blocks there, and are synced ahead of each letter."""

    def __init__(self, web, number, disk):
        super().__init__(web, number)
        if not isinstance(disk, Disk):
            raise NoDisk()
        first = _first_block(web, number)
        if _is_of_other(disk, first):
            raise OtherHouse()
        self.own_disk = disk
        _begin_with(disk, first)
        self.go_on_as(_read_back(disk, Post(web, number)))

    def state(self):
        """The state of the house."""
        return super().state()

    def past(self):
        """The triple of the state, and for each neighbour the outgoing and the incoming state."""
        return super().past()

    def letter(self, to):
        """The sealed row of the letter to a neighbour; what it tells is synced, so that it is never taken back."""
        self.check_neighbour(to)
        self.own_disk.sync()
        return super().letter(to)

    def deed(self, thing):
        """Does a deed as a Post does, and notes it if the past is another one behind it."""
        ahead = self.past()
        answer = super().deed(thing)
        if self.past() != ahead:
            self.own_disk.write(sealed(("deed", thing)))
        return answer

    def copy(self):
        """A Post with this past, without a disk."""
        return super().copy()

    def keep(self):
        """Writes the past, and syncs all: how many blocks there are."""
        self.own_disk.write(sealed(("past", self.past())))
        self.own_disk.sync()
        return self.own_disk.synced()

    def moved(self, disk):
        """A SavedHouse with this past over another disk, one without blocks."""
        if not isinstance(disk, Disk) or len(disk.blocks()) > 0:
            raise NoDisk()
        disk.write(_first_block(self.web, self.number))
        disk.write(sealed(("past", self.past())))
        # What is made of a disk syncs it.
        return SavedHouse(self.web, self.number, disk)


def _first_block(web, number):
    """The block that says of which web and house a disk is."""
    signs = tuple([ord(sign) for sign in web_text(web)])
    return sealed(("house", mark(signs), number))


def _is_of_other(disk, first):
    """Whether the first block of a disk says that it is of another house."""
    blocks = disk.blocks()
    if len(blocks) == 0 or blocks[0] == first:
        return False
    told = unsealed(blocks[0])
    return len(told) > 0 and is_tuple_of(3, told[0]) and told[0][0] == "house"


def _begin_with(disk, first):
    """Lets go of all blocks and writes the first one, unless it is there."""
    if disk.blocks()[:1] != [first]:
        disk.drop(0)
        disk.write(first)


def _read_back(disk, post):
    """The Post behind all that the blocks tell; those from the first on that can't be so are let go of."""
    found = post
    good = 1
    for block in disk.blocks()[1:]:
        behind = _behind(found, block)
        if behind is None:
            break
        found = behind
        good += 1
    disk.drop(good)
    disk.sync()
    return found


def _behind(post, block):
    """The Post behind what a block tells, None if it tells nothing that can be so."""
    told = unsealed(block)
    if len(told) == 0 or not is_tuple_of(2, told[0]):
        return None
    sort, thing = told[0]
    if sort == "past":
        return _behind_past(post, thing)
    if sort == "deed":
        return _behind_deed(post, thing)
    return None


def _behind_past(post, past):
    try:
        return post_of(post.web, post.number, past)
    except NoPast:
        return None


def _behind_deed(post, deed):
    """The Post behind a deed, None if it can't do it then, or its past stays."""
    behind = post.copy()
    try:
        behind.deed(deed)
    except NoDeed:
        return None
    return None if behind.past() == post.past() else behind

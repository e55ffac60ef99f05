"""The net: saved houses, each over its own disk, and a bag of letters that come late, often, spoilt or never."""
from moststream.disks import Disk
from moststream.errors import BadDeeds, NoCut, NoDeed, NoNumber
from moststream.kinds import is_number_below
from moststream.rows import is_byte, is_row, unsealed
from moststream.savings import SavedHouse
from moststream.webs import are_tied, check_house, neighbours

MOST_TRIPS = 100000
# How many parts each sort of deed has behind its word.
PARTS_OF = {"start": 1, "keep": 1, "post": 2, "bring": 1, "lose": 1, "double": 1, "spoil": 3, "send": 2, "cut": 2}


def _check_deed(holds):
    if not holds:
        raise NoDeed()


def _house_in(net, house):
    """A house of the net: NoDeed if there is none."""
    _check_deed(is_number_below(net.web.many, house))
    return net.houses[house]


def _letter_in(net, at):
    """The pair of house and row of a number in the bag: NoDeed if there is none."""
    _check_deed(is_number_below(len(net.letters), at))
    return net.letters[at]


def _start(net, parts):
    return _house_in(net, parts[0]).deed(("start",))


def _keep(net, parts):
    return _house_in(net, parts[0]).keep()


def _post(net, parts):
    one, other = parts
    _check_deed(are_tied(net.web, one, other))
    net.letters.append((other, net.houses[one].letter(other)))


def _bring(net, parts):
    to, row = _letter_in(net, parts[0])
    net.letters.pop(parts[0])
    return net.houses[to].deed(("hear", row))


def _lose(net, parts):
    _letter_in(net, parts[0])
    net.letters.pop(parts[0])


def _double(net, parts):
    net.letters.append(_letter_in(net, parts[0]))


def _spoil(net, parts):
    number, at, byte = parts
    to, row = _letter_in(net, number)
    _check_deed(is_number_below(len(row), at) and is_byte(byte))
    spoilt = row[:at] + (byte,) + row[at + 1:]
    # What is sealed of something might be a letter that no house wrote.
    _check_deed(spoilt == row or len(unsealed(spoilt)) == 0)
    net.letters[number] = (to, spoilt)


def _send(net, parts):
    to, row = parts
    _house_in(net, to)
    _check_deed(is_row(row) and len(unsealed(row)) == 0)
    net.letters.append((to, row))


def _cut(net, parts):
    house, kept = parts
    _house_in(net, house)
    try:
        net.disks[house].cut(kept)
    except NoCut:
        raise NoDeed()
    net.houses[house] = SavedHouse(net.web, house, net.disks[house])


ACTIONS = {"start": _start, "keep": _keep, "post": _post, "bring": _bring, "lose": _lose, "double": _double,
           "spoil": _spoil, "send": _send, "cut": _cut}


class Net:
    """Saved houses of a web, their disks, and the letters on their way."""

    def __init__(self, web):
        self.web = web
        self.disks = [Disk() for _ in range(web.many)]
        self.houses = [SavedHouse(web, number, disk) for number, disk in enumerate(self.disks)]
        self.letters = []

    def house(self, number):
        """The house of a number, itself."""
        check_house(self.web, number)
        return self.houses[number]

    def disk(self, number):
        """A copy of the disk of a house."""
        check_house(self.web, number)
        return self.disks[number].copy()

    def bag(self):
        """The list of the pairs of house and row that are on their way."""
        return list(self.letters)

    def glass(self):
        """The glass of the states of all houses, and of the words that are sent and not yet taken."""
        ways = [(one, other, self.words_between(one, other)) for one, other in pairs_of(self.web)]
        return (tuple([house.state() for house in self.houses]), tuple([way for way in ways if len(way[2]) > 0]))

    def deed(self, thing):
        """Does a deed: what it returns."""
        _check_deed(isinstance(thing, tuple) and len(thing) > 0 and isinstance(thing[0], str))
        _check_deed(PARTS_OF.get(thing[0], -1) == len(thing) - 1)
        action = ACTIONS[thing[0]]
        return action(self, thing[1:])

    def words_between(self, one, other):
        """The tuple of the words that wait at the one house and are not yet taken by the other."""
        taken = self.houses[other].taken_from(one)
        return tuple([word for number, word in self.houses[one].waiting_for(other) if number >= taken])


def pairs_of(web):
    """The list of the pairs of neighbours, both ways, ascending."""
    return [(one, other) for one in range(web.many) for other in neighbours(web, one)]


def led_by(net, deeds):
    """Does deeds, one behind the other: the list of what they returned."""
    if not isinstance(deeds, (list, tuple)):
        raise BadDeeds(-1)
    found = []
    for index, thing in enumerate(deeds):
        try:
            found.append(net.deed(thing))
        except NoDeed:
            raise BadDeeds(index)
    return found


def round_trip(net):
    """The spring starts, and letters go to and fro between neighbours as long as words wait."""
    if _spring_sleeps(net):
        net.house(net.web.spring).deed(("start",))
    for one, other in pairs_of(net.web):
        _talk(net.house(one), net.house(other))


def _spring_sleeps(net):
    return net.house(net.web.spring).state()[0] == "asleep"


def _talk(one, other):
    """The other house hears the one's letter, and the one hears the other's, as long as words wait for the other."""
    while len(one.waiting_for(other.number)) > 0:
        other.deed(("hear", one.letter(other.number)))
        one.deed(("hear", other.letter(one.number)))


def settle(net, most):
    """Round trips until nothing is left to be done, at most so many: how many there were."""
    if not is_number_below(MOST_TRIPS + 1, most):
        raise NoNumber()
    trips = 0
    while trips < most and not _is_settled(net):
        round_trip(net)
        trips += 1
    return trips


def _is_settled(net):
    """Whether the spring is awake, and no word waits."""
    if _spring_sleeps(net):
        return False
    return all([len(net.house(one).waiting_for(other)) == 0 for one, other in pairs_of(net.web)])

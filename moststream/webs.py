"""Webs: houses, the ties between them, the spring and the mouth."""
from moststream.errors import BadWeb, NoHouse, NoTie
from moststream.kinds import is_number_below, is_tuple_of

FEWEST_HOUSES = 2
MOST_HOUSES = 10
LETS_LIMIT = 1000000


class Web:
    """Houses numbered from 0 on, and the ascending ties (a, b, there, back) between them."""

    def __init__(self, many, ties, spring, mouth):
        _check_many(many)
        _check_ties(many, ties)
        if not is_number_below(many, spring):
            raise BadWeb("spring")
        if not is_number_below(many, mouth) or mouth == spring:
            raise BadWeb("mouth")
        self.many = many
        self.ties = ties
        self.spring = spring
        self.mouth = mouth
        # Kept because every word that is heard asks for them, again and again.
        self.through = _through(ties)
        self.around = tuple([_around(self.through, house) for house in range(many)])

    def __eq__(self, other):
        return (isinstance(other, Web) and self.many == other.many and self.ties == other.ties
                and self.spring == other.spring and self.mouth == other.mouth)


def _check_many(many):
    if not is_number_below(MOST_HOUSES + 1, many) or many < FEWEST_HOUSES:
        raise BadWeb("many")


def _check_ties(many, ties):
    if not isinstance(ties, tuple):
        raise BadWeb(-1)
    for at, tie in enumerate(ties):
        # The one ahead has been checked by now, so the pairs are integers and can be compared.
        if not _is_tie(many, tie) or (at > 0 and tie[:2] <= ties[at - 1][:2]):
            raise BadWeb(at)


def _is_tie(many, thing):
    if not is_tuple_of(4, thing):
        return False
    one, other, there, back = thing
    return (is_number_below(many, other) and is_number_below(other, one)
            and is_number_below(LETS_LIMIT, there) and is_number_below(LETS_LIMIT, back))


def _through(ties):
    """For each pair of neighbours, both ways, how many units their tie lets through."""
    units_of = {}
    for one, other, there, back in ties:
        units_of[(one, other)] = there
        units_of[(other, one)] = back
    return units_of


def _around(through, house):
    """The lot of the houses that are tied to a house."""
    return tuple(sorted([other for one, other in through if one == house]))


def check_house(web, house):
    """NoHouse for what is no house of the web."""
    if not is_number_below(web.many, house):
        raise NoHouse()


def neighbours(web, house):
    """The lot of the houses that are tied to a house."""
    check_house(web, house)
    return web.around[house]


def are_tied(web, one, other):
    """Whether two things are houses of the web with a tie between them."""
    return is_number_below(web.many, one) and is_number_below(web.many, other) and (one, other) in web.through


def lets(web, one, other):
    """How many units the tie between two houses lets through from the one to the other."""
    check_house(web, one)
    check_house(web, other)
    if (one, other) not in web.through:
        raise NoTie()
    return web.through[(one, other)]

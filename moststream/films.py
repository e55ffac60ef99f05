"""Films: reels that stand anywhere in a run, and pictures of glasses and streams."""
from moststream.errors import BadMoves, NoMoment, NoMove, NoNumber
from moststream.glass import behind_move, check_glass, first_glass, height_of, held_by
from moststream.kinds import is_number_below
from moststream.streams import check_stream
from moststream.texts import words_text
from moststream.webs import neighbours

MOST_EVERY = 500


class Reel:
    """The moves of a run; it stands behind some of them, and keeps glasses behind multiples of every."""

    def __init__(self, web, moves, every):
        _check_moves(web, moves)
        if not is_number_below(MOST_EVERY + 1, every) or every == 0:
            raise NoNumber()
        self.web = web
        self.run = tuple(moves)
        self.every = every
        self.place = 0
        self.there = first_glass(web)
        self.glasses = {0: self.there}
        self.newly = 0

    def stands(self):
        """Behind how many moves it stands."""
        return self.place

    def glass_there(self):
        """The glass where it stands."""
        return self.there

    def seek(self, at):
        """Stands behind so many moves from now on."""
        if not is_number_below(len(self.run) + 1, at):
            raise NoMoment()
        first = max([number for number in self.kept() if number <= at])
        glass = self.glasses[first]
        if first < self.place <= at:
            first = self.place
            glass = self.there
        for number in range(first, at):
            glass = behind_move(self.web, glass, self.run[number])
            if (number + 1) % self.every == 0:
                self.glasses[number + 1] = glass
        self.place = at
        self.there = glass
        self.newly = at - first

    def kept(self):
        """The ascending tuple of the numbers behind which glasses are kept."""
        return tuple(sorted(self.glasses))

    def worked(self):
        """How many moves were made by the last seek."""
        return self.newly

    def copy(self):
        """Another Reel that stands there and keeps the same, and goes on apart."""
        # Made without moves, since these were judged when this one was made.
        other = Reel(self.web, (), self.every)
        other.run = self.run
        other.place = self.place
        other.there = self.there
        other.glasses = dict(self.glasses)
        other.newly = self.newly
        return other


def _check_moves(web, moves):
    """BadMoves for what are no moves that can be made from the first glass on."""
    if not isinstance(moves, (list, tuple)):
        raise BadMoves(-1)
    glass = first_glass(web)
    for index, move in enumerate(moves):
        try:
            glass = behind_move(web, glass, move)
        except NoMove:
            raise BadMoves(index)


def _rows(rows):
    return "".join([row + "\n" for row in rows])


def drawn(web, glass):
    """The picture of a glass: all houses, and all words on their way."""
    check_glass(web, glass)
    houses = [_house_row(web, house, state) for house, state in enumerate(glass[0])]
    return _rows(houses + [_way_row(way) for way in glass[1]])


def _house_row(web, house, state):
    stage, height, held, streams, beliefs, sent = state
    ends = [f"{other}:{units}:{belief}:{away}"
            for other, units, belief, away in zip(neighbours(web, house), streams, beliefs, sent)]
    return words_text([house, stage, height, held, *ends])


def _way_row(way):
    sender, house, words = way
    told = [",".join([str(part) for part in word]) for word in words]
    return words_text([f"{sender}>{house}", *told])


def drawn_heights(web, glass):
    """The picture of how high the houses of a glass are, the greatest height first."""
    check_glass(web, glass)
    greatest = max([height_of(glass, house) for house in range(web.many)])
    return _rows([_height_row(web, glass, height) for height in range(greatest, -1, -1)])


def _height_row(web, glass, height):
    return "".join([_sign_of(web, glass, house) if height_of(glass, house) == height else "."
                    for house in range(web.many)])


def _sign_of(web, glass, house):
    if house == web.spring:
        return "S"
    if house == web.mouth:
        return "M"
    return "*" if held_by(glass, house) > 0 else "o"


def drawn_stream(web, stream):
    """The picture of a stream: of each tie the units, and what it lets through their way."""
    check_stream(web, stream)
    return _rows([_tie_row(tie, units) for tie, units in zip(web.ties, stream)])


def _tie_row(tie, units):
    one, other, there, back = tie
    if units < 0:
        return f"{other}-{one} {-units} of {back}"
    return f"{one}-{other} {units} of {there}"

"""Streams on a web: their worth and room, sides and papers, and splits into ways."""
from moststream.errors import NoSide, NoStream
from moststream.kinds import is_int, is_lot, is_number_below, is_tuple_of
from moststream.webs import lets


def is_stream(web, thing):
    """Whether a thing is a tuple of what goes through each tie, and nothing stays on its way."""
    if not is_tuple_of(len(web.ties), thing):
        return False
    if not all([_fits(tie, units) for tie, units in zip(web.ties, thing)]):
        return False
    between = [house for house in range(web.many) if house not in (web.spring, web.mouth)]
    return all([gain(web, thing, house) == 0 for house in between])


def _fits(tie, units):
    return is_int(units) and -tie[3] <= units <= tie[2]


def gain(web, stream, house):
    """How many units come to a house, less those that go from it."""
    come = sum([units for tie, units in zip(web.ties, stream) if tie[1] == house])
    go = sum([units for tie, units in zip(web.ties, stream) if tie[0] == house])
    return come - go


def check_stream(web, stream):
    """NoStream for what is no stream of the web."""
    if not is_stream(web, stream):
        raise NoStream()


def worth(web, stream):
    """How many units come to the mouth, less those that go from it."""
    check_stream(web, stream)
    return gain(web, stream, web.mouth)


def units_each_way(web, stream):
    """For each pair of tied houses, both ways, the units from the one to the other."""
    units_of = {}
    for tie, units in zip(web.ties, stream):
        units_of[(tie[0], tie[1])] = units
        units_of[(tie[1], tie[0])] = -units
    return units_of


def room_each_way(web, stream):
    """For each pair of tied houses, both ways, the room from the one to the other."""
    room_of = {}
    for (one, other, there, back), units in zip(web.ties, stream):
        room_of[(one, other)] = there - units
        room_of[(other, one)] = back + units
    return room_of


def room(web, stream, one, other):
    """How many more units the tie lets through from the one to the other."""
    check_stream(web, stream)
    # Asked first, because it raises what is due for houses and ties.
    through = lets(web, one, other)
    return through - units_each_way(web, stream)[(one, other)]


def _reached(web, free):
    """The houses that are reached from the spring, and for each the one ahead of it.

    free tells for pairs of houses how much goes from the one to the other. The
    nearest houses are reached first, so that the ways found in it are shortest ones.
    """
    ahead = {web.spring: web.spring}
    newest = [web.spring]
    while newest:
        found = []
        for one in newest:
            for other in range(web.many):
                if other not in ahead and free.get((one, other), 0) > 0:
                    ahead[other] = one
                    found.append(other)
        newest = found
    return ahead


def _way_to_mouth(web, ahead):
    """The way from the spring to the mouth, read off what _reached told."""
    way = [web.mouth]
    while way[-1] != web.spring:
        way.append(ahead[way[-1]])
    return tuple(way[::-1])


def _steps(way):
    return list(zip(way, way[1:]))


def _narrowest(free, way):
    return min([free[step] for step in _steps(way)])


def most(web):
    """The greatest worth of a stream: shortest ways with room are filled until there is none."""
    free = room_each_way(web, (0,) * len(web.ties))
    total = 0
    ahead = _reached(web, free)
    while web.mouth in ahead:
        way = _way_to_mouth(web, ahead)
        units = _narrowest(free, way)
        for one, other in _steps(way):
            free[(one, other)] -= units
            free[(other, one)] += units
        total += units
        ahead = _reached(web, free)
    return total


def _is_side(web, thing):
    if not is_lot(thing) or not all([house < web.many for house in thing]):
        return False
    return web.spring in thing and web.mouth not in thing


def side_worth(web, side):
    """How many units all ties let through from the houses of a side to others."""
    if not _is_side(web, side):
        raise NoSide()
    there = sum([tie[2] for tie in web.ties if tie[0] in side and tie[1] not in side])
    back = sum([tie[3] for tie in web.ties if tie[1] in side and tie[0] not in side])
    return there + back


def side_of(web, stream):
    """The lot of the houses that ways with room reach from the spring, None if the mouth is one."""
    check_stream(web, stream)
    ahead = _reached(web, room_each_way(web, stream))
    if web.mouth in ahead:
        return None
    return tuple(sorted(ahead))


def is_paper(web, stream, thing):
    """Whether a thing is a side whose worth is that of the stream."""
    total = worth(web, stream)
    return _is_side(web, thing) and side_worth(web, thing) == total


def split(web, stream):
    """Ways from the spring to the mouth that together carry the worth of a stream."""
    left = worth(web, stream)
    if left < 0:
        return None
    free = units_each_way(web, stream)
    parts = []
    while left > 0:
        way = _way_to_mouth(web, _reached(web, free))
        # Where units go round through the mouth, a way can carry more than the stream is worth.
        units = min(left, _narrowest(free, way))
        for step in _steps(way):
            free[step] -= units
        parts.append((way, units))
        left -= units
    return tuple(parts)


def is_split(web, stream, thing):
    """Whether a thing parts the worth of a stream into ways that the stream goes."""
    total = worth(web, stream)
    if total < 0 or not isinstance(thing, tuple) or len(thing) > len(web.ties):
        return False
    free = units_each_way(web, stream)
    if not all([_is_part(web, free, part) for part in thing]):
        return False
    used = _units_used(thing)
    return all([used[step] <= free[step] for step in used]) and sum([part[1] for part in thing]) == total


def _is_part(web, tied, thing):
    """Whether a thing is a pair of a way and its units; tied has the pairs of tied houses as keys."""
    if not is_tuple_of(2, thing):
        return False
    way, units = thing
    return _is_way(web, tied, way) and is_int(units) and units > 0


def _is_way(web, tied, thing):
    if not isinstance(thing, tuple) or not all([is_number_below(web.many, house) for house in thing]):
        return False
    if len(thing) == 0 or thing[0] != web.spring or thing[-1] != web.mouth:
        return False
    return len(set(thing)) == len(thing) and all([step in tied for step in _steps(thing)])


def _units_used(parts):
    """For each pair of houses on the ways, how many units go from the one to the other."""
    used = {}
    for way, units in parts:
        for step in _steps(way):
            used[step] = used.get(step, 0) + units
    return used

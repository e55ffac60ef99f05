"""Runs to the end in any order, the stream that stands, and how many words there can be."""
from moststream.errors import NoChoices
from moststream.glass import (check_glass, first_glass, first_glass_of, first_word, made, next_moves,
                              streams_each_way)
from moststream.kinds import is_number
from moststream.webs import neighbours

SORTS = ("pour", "push", "yes", "no", "rise")


def check_choices(choices):
    """NoChoices for what is no list or tuple of numbers."""
    if not isinstance(choices, (list, tuple)):
        raise NoChoices(-1)
    for index, choice in enumerate(choices):
        if not is_number(choice):
            raise NoChoices(index)


def chosen(web, glass, choices, at):
    """The move that the choice of this number tells, the least one behind all choices, None if there is none."""
    can_be_next = next_moves(web, glass)
    if len(can_be_next) == 0:
        return None
    if at < len(choices):
        return can_be_next[choices[at] % len(can_be_next)]
    return can_be_next[0]


def run_out(web, choices):
    """The pair of the glass at the end of a run from the first glass, and how many words of each sort were taken."""
    check_choices(choices)
    return _ran_out(web, first_glass(web), choices)


def run_from(web, stream, choices):
    """What run_out tells, but from the first glass of a stream."""
    glass = first_glass_of(web, stream)
    check_choices(choices)
    return _ran_out(web, glass, choices)


def _ran_out(web, glass, choices):
    counts = [0] * len(SORTS)
    at = 0
    move = chosen(web, glass, choices, at)
    while move is not None:
        if move[0] == "take":
            counts[SORTS.index(first_word(glass, move)[0])] += 1
        glass, _ = made(web, glass, move)
        at += 1
        move = chosen(web, glass, choices, at)
    return (glass, tuple(counts))


def stream_of(web, glass):
    """For each tie the stream from its lesser house, as that one knows it."""
    check_glass(web, glass)
    streams = streams_each_way(web, glass)
    return tuple([streams[tie[:2]] for tie in web.ties])


def bounds(web):
    """How many pours, pushes, yeses, noes and rises there can be at most."""
    many = web.many
    ties = len(web.ties)
    pours = len(neighbours(web, web.spring))
    yeses = 2 * ties * many + (2 * many - 1) * (many - 2 + 2 * many * ties + 2 * ties * (2 * many - 1))
    noes = (2 * many - 1) * 2 * ties
    return (pours, yeses + noes, yeses, noes, noes)

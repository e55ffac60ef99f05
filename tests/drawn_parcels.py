"""Drawn parcels, and rows that are spoiled in one place."""
from tests.plain_rows import SIGNS

INTEGERS = (0, -1, 1, -2, 127, 128, -128, -129, 255, 300, 16383, 16384, -16385, 10 ** 19, 10 ** 20 - 1, 1 - 10 ** 20,
            2 ** 32, 2 ** 64)


def drawn_parcel(draw, deep=4):
    """A parcel of any sort, with tuples nested at most so deep."""
    sort = draw.below(7 if deep else 5)
    if sort == 0:
        return draw.one_of((None, True, False))
    if sort == 1:
        return draw.one_of(INTEGERS)
    if sort == 2:
        return draw.among(-400, 400)
    if sort in (3, 4):
        return "".join(draw.one_of(SIGNS) for _ in range(draw.one_of((1, 2, 5, 20))))
    return tuple(drawn_parcel(draw, deep - 1) for _ in range(draw.below(5)))


def drawn_bytes(draw, many):
    """So many bytes; small ones are as many as others, since these tell sorts."""
    return tuple(draw.below(draw.one_of((7, 7, 40, 128, 256))) for _ in range(many))


def spoiled_row(draw, row):
    """The row with bytes otherwise, put in, left out, cut off or put behind it."""
    at = draw.below(len(row) + 1)
    some = drawn_bytes(draw, 1)
    return draw.one_of((
        row[:at] + some + row[at + 1:], row[:at] + some + row[at:], row[:at] + row[at + 1:], row[:at],
        row + drawn_bytes(draw, draw.among(1, 3)), row[:at] + row[at + 1:at + 2] + row[at:at + 1] + row[at + 2:],
        row[:at] + (128,) * draw.among(1, 3) + row[at:], row[:at] + (0,) + row[at:], row[:-1] + (row[-1] | 128,),
    ))

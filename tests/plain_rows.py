"""Plain readings of [7]: rows read byte by byte, marks, seals, and disks as lists of blocks."""

SIGNS = [chr(number) for number in range(32, 127) if number != 37]


class Wrong(Exception):
    """Says at which place."""


class Reader:
    """Reads a row from the front, and says what it tells or where it is wrong."""

    def __init__(self, row):
        self.row = row
        self.at = 0

    def byte(self):
        if self.at == len(self.row):
            raise Wrong(len(self.row))
        self.at += 1
        return self.row[self.at - 1]

    def whole(self, string=False):
        first = self.at
        figures = [self.byte()]
        while figures[-1] > 127:
            if self.at == len(self.row):
                raise Wrong(first)
            figures.append(self.byte())
        if len(figures) > 1 and figures[-1] == 0:
            raise Wrong(first)
        number = sum((figure & 127) << (7 * place) for place, figure in enumerate(figures))
        if string and number not in range(1, 21):
            raise Wrong(first)
        return number

    def parcel(self, tuples=0):
        here = self.at
        sort = self.byte()
        if sort in (0, 1, 2):
            return {0: None, 1: False, 2: True}[sort]
        if sort == 3:
            return self.whole()
        if sort == 4:
            return -1 - self.whole()
        if sort == 5:
            return "".join(self.sign() for _ in range(self.whole(string=True)))
        if sort == 6 and tuples < 20:
            many = self.whole()
            items = []
            while len(items) < many:
                items.append(self.parcel(tuples + 1))
            return tuple(items)
        raise Wrong(here)

    def sign(self):
        here = self.at
        sign = chr(self.byte())
        if sign not in SIGNS:
            raise Wrong(here)
        return sign


def plain_read(row):
    """The pair of the parcel and None, or of None and the first wrong place."""
    reader = Reader(row)
    try:
        parcel = reader.parcel()
    except Wrong as wrong:
        return None, wrong.args[0]
    return (parcel, None) if reader.at == len(row) else (None, reader.at)


def plain_row(parcel):
    """The row of a parcel, by the words of [7.1]."""
    if parcel is None or parcel is True or parcel is False:
        return ({None: 0, False: 1, True: 2}[parcel],)
    if isinstance(parcel, int):
        return (3, *plain_whole(parcel)) if parcel >= 0 else (4, *plain_whole(-1 - parcel))
    if isinstance(parcel, str):
        return (5, *plain_whole(len(parcel)), *parcel.encode("ascii"))
    row = (6, *plain_whole(len(parcel)))
    for item in parcel:
        row += plain_row(item)
    return row


def plain_whole(number):
    figures = []
    while number or not figures:
        number, figure = divmod(number, 128)
        figures.append(figure)
    return [figure + 128 for figure in figures[:-1]] + figures[-1:]


def plain_mark(row):
    """The mark, summed up at the end: each byte and 1 counts as often as what comes behind it says."""
    return (1000003 ** len(row) + sum((byte + 1) * 1000003 ** (len(row) - 1 - at) for at, byte in enumerate(row))) \
        % (2 ** 61 - 1)


def plain_sealed(parcel):
    row = plain_row(parcel)
    return row + tuple((plain_mark(row) % 2 ** 32).to_bytes(4, "little"))


class PlainDisk:
    """Blocks as a list of pairs: the row, and whether it waits."""

    def __init__(self):
        self.list = []

    def write(self, row):
        self.list.append((row, True))
        return len(self.list) - 1

    def sync(self):
        waited = [row for row, waits in self.list if waits]
        self.list = [(row, False) for row, _ in self.list]
        return len(waited)

    def blocks(self):
        return [row for row, _ in self.list]

    def synced(self):
        return sum(not waits for _, waits in self.list)

    def cut(self, kept):
        """Whether it could be cut."""
        waiting = [row for row, waits in self.list if waits]
        if len(kept) != len(waiting) or any(many < 0 or many > len(row) for many, row in zip(kept, waiting)):
            return False
        self.list = [(row, False) for row, waits in self.list if not waits] \
            + [(row[:many], False) for many, row in zip(kept, waiting)]
        return True

    def drop(self, number):
        """Whether it could be done."""
        if not 0 <= number <= len(self.list):
            return False
        del self.list[number:]
        return True

    def copy(self):
        other = PlainDisk()
        other.list = self.list[:]
        return other

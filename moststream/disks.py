"""Disks: blocks that are written, wait until they are synced, and may be cut while they wait."""
from moststream.errors import NoBlocks, NoCut, NoNumber
from moststream.kinds import is_number_below, is_tuple_of
from moststream.rows import check_row, is_row, unsealed


class Disk:
    """Blocks, numbered as they are written; from some number on each waits."""

    def __init__(self):
        self.rows = []
        self.firm = 0

    def write(self, row):
        """One more block, that waits: its number."""
        check_row(row)
        self.rows.append(row)
        return len(self.rows) - 1

    def sync(self):
        """No block waits any more: how many did."""
        newly = len(self.rows) - self.firm
        self.firm = len(self.rows)
        return newly

    def blocks(self):
        """The list of all blocks."""
        return list(self.rows)

    def synced(self):
        """How many blocks, from the first one on, do not wait."""
        return self.firm

    def cut(self, kept):
        """The power is cut: of each block that waits so many of its first bytes are there, and none waits."""
        waiting = self.rows[self.firm:]
        if not _is_cut(waiting, kept):
            raise NoCut()
        self.rows = self.rows[:self.firm] + [row[:many] for row, many in zip(waiting, kept)]
        self.firm = len(self.rows)

    def drop(self, number):
        """The blocks from this number on are let go of."""
        if not is_number_below(len(self.rows) + 1, number):
            raise NoNumber()
        self.rows = self.rows[:number]
        self.firm = min(self.firm, number)

    def copy(self):
        """Another disk with these blocks, that goes on apart."""
        other = Disk()
        other.rows = list(self.rows)
        other.firm = self.firm
        return other


def _is_cut(waiting, thing):
    """Whether a thing tells, for each block that waits, a number of bytes that it has."""
    if not is_tuple_of(len(waiting), thing):
        return False
    return all([is_number_below(len(row) + 1, many) for row, many in zip(waiting, thing)])


def kept_parcels(blocks):
    """The list of the parcels of which the first blocks are sealed, up to the first that is not."""
    if not isinstance(blocks, (list, tuple)) or not all([is_row(block) for block in blocks]):
        raise NoBlocks()
    parcels = []
    for block in blocks:
        told = unsealed(block)
        if len(told) == 0:
            break
        parcels.extend(told)
    return parcels

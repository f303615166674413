"""Disks: blocks of bytes, of which the last ones may still wait, and then be cut."""

from knownquiet.errors import NoBlocks, NoCut, NoNumber
from knownquiet.forms import is_below, is_tuple_of
from knownquiet.rows import check_row, is_row, unsealed


class Disk:
    """Blocks, of which those from some number on wait."""

    def __init__(self):
        self.rows = []
        # How many blocks, from the first on, do not wait.
        self.firm = 0

    def write(self, row):
        """Put a block behind the others, that waits, and tell its number."""
        check_row(row)
        self.rows.append(row)
        return len(self.rows) - 1

    def sync(self):
        """Let no block wait any more, and tell how many did."""
        many = len(self.rows) - self.firm
        self.firm = len(self.rows)
        return many

    def blocks(self):
        """Tell all blocks."""
        return list(self.rows)

    def synced(self):
        """Tell how many blocks, from the first on, do not wait."""
        return self.firm

    def cut(self, kept):
        """Let of each block that waits so many first bytes be there, and none wait any more."""
        waiting = self.rows[self.firm:]
        if not is_tuple_of(len(waiting), kept):
            raise NoCut()
        if not all([is_below(len(row) + 1, many) for row, many in zip(waiting, kept)]):
            raise NoCut()
        self.rows = self.rows[:self.firm] + [row[:many] for row, many in zip(waiting, kept)]
        self.firm = len(self.rows)

    def drop(self, number):
        """Let go of the blocks from a number on."""
        if not is_below(len(self.rows) + 1, number):
            raise NoNumber()
        self.rows = self.rows[:number]
        self.firm = min(self.firm, number)

    def copy(self):
        """Another Disk with these blocks, that goes on apart."""
        other = Disk()
        other.rows = list(self.rows)
        other.firm = self.firm
        return other


def kept_parcels(blocks):
    """Tell the parcels of the first blocks, as far as each is sealed of one."""
    if not isinstance(blocks, (list, tuple)) or not all([is_row(block) for block in blocks]):
        raise NoBlocks()
    parcels = []
    for block in blocks:
        found = unsealed(block)
        if len(found) == 0:
            break
        parcels.append(found[0])
    return parcels

"""A bench of disks, which stops at a deed that it was told ahead."""

from volumehall.errors import BadNumber, BadSizes, NoBlock, NoDisk, Stopped
from volumehall.plain import copied, is_number

MOST_DISKS = 6
MOST_PIECES = 12
BLOCKS = 4
MOST_NUMBER = 999
MOST_DEEDS = 10 ** 6


class Disk:
    """A disk that is there: the blocks of its pieces, and the sheet that was laid last."""

    def __init__(self, pieces):
        self.blocks = [[0] * BLOCKS for _ in range(pieces)]
        self.laid = None


def check_pieces(pieces):
    """Refuse a count of pieces that no disk has."""
    if not is_number(pieces, 1, MOST_PIECES):
        raise BadSizes("a disk has 1 to 12 pieces")


def check_block(found, piece, block):
    """Refuse a block that the disk doesn't have."""
    if not is_number(piece, 0, len(found.blocks) - 1) or not is_number(block, 0, BLOCKS - 1):
        raise NoBlock("the disk has no such block")


class Bench:
    """Disks in their places: a place holds a Disk, or None since its disk went."""

    def __init__(self, sizes):
        if not 1 <= len(sizes) <= MOST_DISKS:
            raise BadSizes("a bench has one to six disks")
        for pieces in sizes:
            check_pieces(pieces)
        self._places = [Disk(pieces) for pieces in sizes]
        self._done = 0
        # How many deeds are done till all stops; None: no end is set.
        self._left = None
        self._stopped = False

    def _check_going(self):
        """Refuse whatever has a disk's number while all stands still."""
        if self._stopped:
            raise Stopped("the bench stands still")

    def _is_place(self, disk):
        """Whether a place has this number, with a disk or without."""
        return is_number(disk, 0, len(self._places) - 1)

    def _found(self, disk):
        """The disk of this number."""
        self._check_going()
        if not self._is_place(disk) or self._places[disk] is None:
            raise NoDisk("there is no such disk")
        return self._places[disk]

    def _begin_deed(self):
        """Count a deed that nothing else refuses, or stop at it."""
        if self._left == 0:
            self._stopped = True
            raise Stopped("the bench stops here")
        if self._left is not None:
            self._left -= 1
        self._done += 1

    def get(self, disk, piece, block):
        """What a block holds."""
        found = self._found(disk)
        check_block(found, piece, block)
        return found.blocks[piece][block]

    def put(self, disk, piece, block, number):
        """Let a block hold another number: a deed."""
        found = self._found(disk)
        check_block(found, piece, block)
        if not is_number(number, 0, MOST_NUMBER):
            raise BadNumber("a block holds 0 to 999")
        self._begin_deed()
        found.blocks[piece][block] = number

    def sheet(self, disk):
        """The sheet that was laid on a disk last, or None."""
        return copied(self._found(disk).laid)

    def lay(self, disk, sheet):
        """Lay a sheet on a disk, in the place of the one ahead: a deed."""
        found = self._found(disk)
        self._begin_deed()
        found.laid = copied(sheet)

    def lose(self, disk):
        """A disk goes, with all it held."""
        self._found(disk)
        self._places[disk] = None

    def bring(self, disk, pieces):
        """A new disk comes in the place of one that went."""
        self._check_going()
        if not self._is_place(disk) or self._places[disk] is not None:
            raise NoDisk("no disk went from this place")
        check_pieces(pieces)
        self._places[disk] = Disk(pieces)

    def sizes(self):
        """How many pieces each disk has, None for one that isn't there."""
        return [None if found is None else len(found.blocks) for found in self._places]

    def deeds(self):
        """How many deeds were done."""
        return self._done

    def arm(self, count):
        """So many deeds are done from now on; at the next one all stops."""
        if not is_number(count, 0, MOST_DEEDS):
            raise BadNumber("a bench is armed with 0 to 10 ** 6 deeds")
        self._left = count

    def again(self):
        """Go on, without an end."""
        self._stopped = False
        self._left = None

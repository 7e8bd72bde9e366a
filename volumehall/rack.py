"""The bench behind a hall."""

from volumehall.errors import Stopped


class Rack:
    """A bench as a hall uses it, by places; once the bench has refused with Stopped it is of no use any more."""

    def __init__(self, bench):
        self._bench = bench
        self._ended = False

    def counts(self):
        """How many pieces each disk has, None for one that isn't there."""
        return self._bench.sizes()

    def sheets(self):
        """What lies on each disk: None for one that isn't there, or that came anew."""
        if self._ended:
            raise Stopped("the hall was stopped")
        return [None if count is None else self._sheet(disk) for disk, count in enumerate(self.counts())]

    def _sheet(self, disk):
        """What lies on a disk that is there."""
        try:
            return self._bench.sheet(disk)
        except Stopped:
            self._ended = True
            raise

    def held(self, place, block):
        """What a block of a place holds."""
        return self._bench.get(place[0], place[1], block)

    def hold(self, place, block, number):
        """Let a block of a place hold another number."""
        try:
            self._bench.put(place[0], place[1], block, number)
        except Stopped:
            self._ended = True
            raise

    def hold_alike(self, place, numbers):
        """Let a place hold these numbers, touching only the blocks that hold others."""
        for block, number in enumerate(numbers):
            if self.held(place, block) != number:
                self.hold(place, block, number)

    def lay_on_all(self, sheet):
        """Lay a sheet on all disks that are there, rising."""
        try:
            for disk, count in enumerate(self.counts()):
                if count is not None:
                    self._bench.lay(disk, sheet)
        except Stopped:
            self._ended = True
            raise

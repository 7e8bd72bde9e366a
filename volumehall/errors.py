"""The refusals of the program."""


class VolumeError(ValueError):
    """Any refusal; it knows the name of its own class."""

    def __init__(self, why=""):
        ValueError.__init__(self, why)
        self.kind = self.__class__.__name__


class BadSizes(VolumeError):
    """Counts of pieces that disks can't have, or too few or too many disks."""


class NoDisk(VolumeError):
    """A disk that isn't there, or a place that is not free for one."""


class NoBlock(VolumeError):
    """A piece or a block that the disk doesn't have."""


class BadNumber(VolumeError):
    """A number outside of its range."""


class Stopped(VolumeError):
    """The bench stands still."""


class BadVolume(VolumeError):
    """A name, a length or a count of copies that a volume can't have."""


class NoVolume(VolumeError):
    """A volume that isn't there, or one that is there already."""


class Full(VolumeError):
    """There isn't room enough."""


class Lost(VolumeError):
    """No copy of the piece is left."""


class BadText(VolumeError):
    """A text in which a row is no step; the first such row, from 0."""

    def __init__(self, row):
        VolumeError.__init__(self, f"row {row} is no step")
        self.row = row

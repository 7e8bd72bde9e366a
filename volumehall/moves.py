"""A copy under way."""


class Move:
    """A copy of a piece to its goal, and how many blocks are copied; over is the place it takes over, or None."""

    def __init__(self, name, piece, goal, over):
        self.name = name
        self.piece = piece
        self.goal = goal
        self.over = over
        self.blocks = 0

    def needs(self, disks):
        """Whether its goal, or the place that it takes over, lies on one of these disks."""
        return self.goal[0] in disks or self.takes_over(disks)

    def takes_over(self, disks):
        """Whether the place that it takes over lies on one of these disks."""
        return self.over is not None and self.over[0] in disks

"""What a log counts."""


class Counts:
    """The counts of a log."""

    def __init__(self):
        self.commits = 0
        self.commit_blocks = 0
        self.moves = 0
        self.move_blocks = 0
        self.checkpoints = 0
        self.checkpoint_blocks = 0
        self.barriers = 0

    @property
    def blocks_written(self):
        """The number of all blocks that were written."""
        return self.commit_blocks + self.move_blocks + self.checkpoint_blocks

    @property
    def blocks_wanted(self):
        """The number of the payload blocks of the commits."""
        return self.commit_blocks - self.commits

    def as_row(self):
        """Return all counts in the order of the fields."""
        return (self.commits, self.commit_blocks, self.moves, self.move_blocks, self.checkpoints,
                self.checkpoint_blocks, self.barriers)

    def fork(self):
        """Return other counts with the same fields."""
        twin = Counts()
        twin.commits = self.commits
        twin.commit_blocks = self.commit_blocks
        twin.moves = self.moves
        twin.move_blocks = self.move_blocks
        twin.checkpoints = self.checkpoints
        twin.checkpoint_blocks = self.checkpoint_blocks
        twin.barriers = self.barriers
        return twin

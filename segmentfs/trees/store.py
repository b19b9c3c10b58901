"""The blocks in memory."""


class Store:
    """The blocks in memory together with their layout."""

    def __init__(self, layout, blocks):
        self.layout = layout
        self.blocks = dict(blocks)
        # No id below this one is free, so the search for a new id need not begin at 1 each time.
        self._least_candidate = 1

    def get(self, ident):
        """Return the payload of an id, or None if the id is not in use."""
        return self.blocks.get(ident)

    def put(self, ident, payload):
        """Give an id this payload."""
        self.blocks[ident] = payload

    def remove(self, ident):
        """Take an id out of use."""
        del self.blocks[ident]
        self._least_candidate = min(self._least_candidate, ident)

    def new_id(self):
        """Return the least positive integer that is not in use."""
        while self._least_candidate in self.blocks:
            self._least_candidate += 1
        return self._least_candidate

    def fork(self):
        """Return a store with the same layout and the same blocks."""
        return Store(self.layout, self.blocks)

    @property
    def block_count(self):
        """The number of ids in use."""
        return len(self.blocks)

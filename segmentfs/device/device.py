"""A simulated device whose power can be cut at any command."""


class Device:
    """The blocks of a device, its pending writes and its power."""

    def __init__(self, layout, blocks=None):
        if blocks is None:
            blocks = [None] * layout.device_blocks
        self.layout = layout
        self._sure = list(blocks)
        self._shown = list(blocks)
        self._unsure = []
        self._commands_left = None
        self._power_is_off = False

    def read(self, address):
        """Return the block that was written last at the address."""
        if not 0 <= address < len(self._shown):
            return None
        return self._shown[address]

    def write(self, address, block):
        """Write the block at the address."""
        if self._takes_place():
            self._unsure.append((address, block))
        _put_block(self._shown, address, block)

    def barrier(self):
        """Make all earlier writes sure."""
        if self._takes_place():
            for address, block in self._unsure:
                _put_block(self._sure, address, block)
            self._unsure = []

    def cut_after(self, count):
        """Let so many more commands take place ahead of the power cut."""
        if not self._power_is_off:
            self._commands_left = count

    def was_cut(self):
        """Tell whether the power was cut."""
        return self._power_is_off

    def pending(self):
        """Return the number of pending writes."""
        return len(self._unsure)

    def sure_blocks(self):
        """Return the sure blocks by address."""
        return list(self._sure)

    def left(self, kept, *, torn=()):
        """Return the device that a power failure leaves."""
        kept_numbers = set(kept)
        torn_numbers = set(torn)
        blocks = list(self._sure)
        for number, (address, block) in enumerate(self._unsure):
            if number in torn_numbers:
                _put_block(blocks, address, None)
            elif number in kept_numbers:
                _put_block(blocks, address, block)
        return Device(self.layout, blocks)

    def written_blocks(self):
        """Yield the address and the block of all blocks that are not blank."""
        for address, block in enumerate(self._shown):
            if block is not None:
                yield (address, block)

    def fork(self):
        """Return a device in the same state."""
        twin = Device(self.layout, self._sure)
        twin._shown = list(self._shown)
        twin._unsure = list(self._unsure)
        twin._commands_left = self._commands_left
        twin._power_is_off = self._power_is_off
        return twin

    def _takes_place(self):
        """Count a command, and tell whether the power is still on for it."""
        if self._commands_left == 0:
            self._power_is_off = True
        elif self._commands_left is not None:
            self._commands_left -= 1
        return not self._power_is_off


def _put_block(blocks, address, block):
    """Put a block at the address, if there is one."""
    # The layers above read nothing at an address that is not there, so a write there must not fail.
    if 0 <= address < len(blocks):
        blocks[address] = block

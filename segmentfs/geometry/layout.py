"""Layouts: the sizes of a device and where its blocks lie."""

from segmentfs.errors import InvalidFormat

BLOCK_SIZES = (64, 128, 256)
SUMMARY_HEAD = 16


class Layout:
    """Three sizes and the numbers that follow from them."""

    def __init__(self, segments, segment_blocks, block_size):
        if not 4 <= segments <= 16:
            raise InvalidFormat("a layout has 4 to 16 segments")
        if not 16 <= segment_blocks <= 32:
            raise InvalidFormat("a segment has 16 to 32 blocks")
        if block_size not in BLOCK_SIZES:
            raise InvalidFormat("a block has 64, 128 or 256 octets")
        self.segments = segments
        self.segment_blocks = segment_blocks
        self.block_size = block_size
        self.payload = segment_blocks - 1
        self.limit = (segments - 2) * self.payload
        self.last_id = self.limit + self.payload
        self.fan = block_size // 2
        self.region_blocks = parts_of(2 * (4 * self.last_id + 6 + segments), block_size)
        self.device_blocks = 2 * self.region_blocks + segments * segment_blocks
        # The summary of a commit, with all its ids and its bits, is one block.
        if SUMMARY_HEAD + 2 * self.payload + parts_of(self.last_id, 8) > block_size:
            raise InvalidFormat("the summary of a commit does not fit into a block")


def address_at(layout, segment, place):
    """Return the address of the block at a place of a segment."""
    return 2 * layout.region_blocks + segment * layout.segment_blocks + place


def segment_of(layout, address):
    """Return the segment in which the address lies, or None if it lies in none."""
    start = 2 * layout.region_blocks
    if not start <= address < layout.device_blocks:
        return None
    return (address - start) // layout.segment_blocks


def place_of(layout, address):
    """Return the place of the address in its segment, or None if it lies in none."""
    start = 2 * layout.region_blocks
    if not start <= address < layout.device_blocks:
        return None
    return (address - start) % layout.segment_blocks


def region_start(layout, region):
    """Return the first address of a region."""
    return region * layout.region_blocks


def parts_of(number, size):
    """Return how many parts of the size are needed to hold the number."""
    return (number + size - 1) // size

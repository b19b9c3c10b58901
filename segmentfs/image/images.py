"""Images: whole devices as lists of octets."""

from segmentfs.device.device import Device
from segmentfs.errors import InvalidFormat, InvalidImage
from segmentfs.geometry.layout import Layout
from segmentfs.image.blocks import LETTERS, SPARE_OCTETS, block_octets, is_damaged, read_block
from segmentfs.image.octets import number_octets, number_of
from segmentfs.plain.octets import filled, pieces

HEAD_OCTETS = 16


def write_image(device):
    """Return the image of what the device reads now."""
    octets = _head_octets(device.layout)
    for address in range(device.layout.device_blocks):
        octets.extend(block_octets(device.layout, device.read(address)))
    return octets


def read_image(octets):
    """Return the device whose image this is."""
    layout = _layout_of(octets)
    return Device(layout, [read_block(layout, piece) for piece in _block_pieces(layout, octets)])


def damaged_addresses(octets):
    """Return the addresses of the damaged blocks of an image, ascending."""
    layout = _layout_of(octets)
    found = []
    for address, piece in enumerate(_block_pieces(layout, octets)):
        if is_damaged(layout, piece):
            found.append(address)
    return found


def _head_octets(layout):
    """Return the head of an image."""
    sizes = [layout.segments, layout.segment_blocks] + number_octets(layout.block_size, 2)
    return filled(list(LETTERS) + [1] + sizes, HEAD_OCTETS)


def _layout_of(octets):
    """Return the layout of an image."""
    layout = _layout_in_head(octets[:HEAD_OCTETS])
    if layout is None or len(octets) != _image_octets(layout):
        raise InvalidImage("image", "not an image", 0)
    return layout


def _layout_in_head(head):
    """Return the layout whose head this is, or None."""
    if len(head) < HEAD_OCTETS:
        return None
    block_size = number_of(head[7:9])
    try:
        layout = Layout(head[5], head[6], block_size)
    except InvalidFormat:
        return None
    if head != _head_octets(layout):
        return None
    return layout


def _image_octets(layout):
    """Return how many octets an image has."""
    return HEAD_OCTETS + layout.device_blocks * (SPARE_OCTETS + layout.block_size)


def _block_pieces(layout, octets):
    """Return a list with the octets of each block."""
    return pieces(octets[HEAD_OCTETS:], SPARE_OCTETS + layout.block_size)

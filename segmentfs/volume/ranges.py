"""The ranges of the arguments of volumes and of plain volumes."""

from segmentfs.errors import InvalidName, OutOfRange
from segmentfs.nodes.superblock import is_snapshot_name
from segmentfs.room.policies import POLICIES
from segmentfs.trees.files import MOST_OCTETS

MOST_READ = 65536
MOST_RESERVED = 60000
MOST_PASSES = 64
ACCESSES = ("read", "write", "both")


def check_offset(at):
    """Raise an error unless the number can be an offset or a size."""
    if at > MOST_OCTETS:
        raise OutOfRange(f"an offset or a size is at most {MOST_OCTETS}")


def check_reading(at, count):
    """Raise an error unless so many octets can be asked for from the offset on."""
    check_offset(at)
    if count > MOST_READ:
        raise OutOfRange(f"at most {MOST_READ} octets are read at once")


def check_reserved(blocks):
    """Raise an error unless so many blocks can be asked for."""
    if blocks > MOST_RESERVED:
        raise OutOfRange(f"at most {MOST_RESERVED} blocks are reserved with a handle")


def check_access(access):
    """Raise an error unless this is an access."""
    if access not in ACCESSES:
        raise OutOfRange(f"there is no access {access}")


def check_policy(policy):
    """Raise an error unless this is a policy."""
    if policy not in POLICIES:
        raise OutOfRange(f"there is no policy {policy}")


def check_passes(passes):
    """Raise an error unless a volume can be cleaned with so many passes."""
    if not 1 <= passes <= MOST_PASSES:
        raise OutOfRange(f"a volume is cleaned with 1 to {MOST_PASSES} passes")


def check_snapshot_name(name):
    """Raise an error unless the string is the name of a snapshot."""
    if not is_snapshot_name(name):
        raise InvalidName("this is no name of a snapshot")

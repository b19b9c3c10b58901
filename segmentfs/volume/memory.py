"""What a mounted volume keeps in memory, and how its changes come into the log."""

from segmentfs.errors import Busy, NoRoom, NoTransaction, SegmentError, TransactionTooLarge
from segmentfs.log.logs import append_commit, contents_of
from segmentfs.names.handles import Handles
from segmentfs.nodes.inodes import FILE
from segmentfs.nodes.nodes import Nodes, drop_node, write_node
from segmentfs.room.making import make_room
from segmentfs.room.need import need_of
from segmentfs.room.policies import POLICIES
from segmentfs.volume.files import reserved_blocks, write_pieces


class Memory:
    """The log, the nodes and the open files of a mounted volume."""

    def __init__(self, log):
        self.log = log
        self.nodes = Nodes(log.layout, contents_of(log, log.present))
        self.handles = Handles()
        self.policy = POLICIES[0]
        # The nodes and the open files at the beginning of the open transaction.
        self.saved = None


def touched_ids(log, blocks):
    """Return the ids of the blocks that the log does not hold, ascending."""
    held = contents_of(log, log.present)
    return [ident for ident in sorted(blocks) if held.get(ident) != blocks[ident]]


def waiting_ids(log, blocks):
    """Return the ids at which a block waits, ascending."""
    gone = [ident for ident in contents_of(log, log.present) if ident not in blocks]
    return sorted(touched_ids(log, blocks) + gone)


def write_batch(memory, action):
    """Write a batch of what waits."""
    log = memory.log
    blocks = memory.nodes.store.blocks
    idents = touched_ids(log, blocks)
    make_room(log, len(idents), policy=memory.policy)
    append_commit(log, idents, [blocks[ident] for ident in idents], sorted(blocks), action)


def flush(memory):
    """Write a batch of what waits, if anything waits."""
    if waiting_ids(memory.log, memory.nodes.store.blocks):
        write_batch(memory, 0)


def fits_into_batch(memory, result):
    """Tell whether all that waits behind a change can be written as one batch."""
    return len(touched_ids(memory.log, result.store.blocks)) <= memory.log.layout.payload


def check_room(memory, result, fits):
    """Raise an error if there is no room for a result; if it does not fit, a batch goes ahead of it."""
    through = None if fits else memory.nodes.store.blocks
    need = need_of(memory.log, result.store.blocks, through=through)
    if need + reserved_blocks(result, memory.handles) > memory.log.layout.limit:
        raise NoRoom("the volume would need too many blocks")


def take_result(memory, result, fits):
    """Make a result the nodes in memory; if it does not fit, a batch goes ahead of it."""
    if not fits:
        write_batch(memory, 0)
    memory.nodes = result


def accept(memory, result):
    """Make the result of a change the nodes in memory, or refuse it."""
    fits = fits_into_batch(memory, result)
    if memory.saved is not None and not fits:
        raise TransactionTooLarge("the transaction would not fit into one batch")
    check_room(memory, result, fits)
    take_result(memory, result, fits)


def write_octets(memory, number, at, octets):
    """Write octets of a file piece by piece, and return how many were written."""
    written = 0
    for offset, piece in write_pieces(memory.log.layout, at, octets):
        result = memory.nodes.fork()
        try:
            write_node(result, number, offset, piece)
            accept(memory, result)
        except SegmentError:
            if written == 0:
                raise
            break
        written += len(piece)
    return written


def reserve_blocks(memory, handle, blocks):
    """Reserve blocks with a handle, if there is room for them."""
    former = memory.handles.get(handle).reserved
    memory.handles.reserve(handle, blocks)
    try:
        check_room(memory, memory.nodes, True)
    except NoRoom:
        memory.handles.reserve(handle, former)
        raise


def remove_unused(memory, number):
    """Remove a file if it has no name and is not open; it stays if this is refused."""
    inode = memory.nodes.get(number)
    if inode.kind != FILE or inode.links > 0 or number in memory.handles.opened_numbers():
        return
    result = memory.nodes.fork()
    drop_node(result, number)
    try:
        accept(memory, result)
    except (NoRoom, TransactionTooLarge):
        # A later removal may find room.
        return


def remove_all_unused(memory):
    """Remove all files that have no names and are not open, as far as there is room."""
    numbers = memory.nodes.numbers_in_use()
    for number in numbers:
        remove_unused(memory, number)


def check_quiet(memory):
    """Raise an error if a transaction is open."""
    if memory.saved is not None:
        raise Busy("a transaction is open")


def begin_transaction(memory):
    """Begin a transaction."""
    check_quiet(memory)
    flush(memory)
    # A change makes other nodes and leaves the former ones as they are; handles are changed in place.
    memory.saved = (memory.nodes, memory.handles.fork())


def end_transaction(memory):
    """End the open transaction, and return the nodes and the open files at its beginning."""
    if memory.saved is None:
        raise NoTransaction("no transaction is open")
    saved = memory.saved
    memory.saved = None
    return saved

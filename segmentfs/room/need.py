"""Need: how many blocks a volume needs for a result."""

from segmentfs.log.logs import payload_at


def need_of(log, blocks, *, through=None):
    """Return the need of the result, which is perhaps written behind another one."""
    kept = []
    for slot in log.slots:
        if slot is not None:
            kept.extend(slot)
    staying = _staying_addresses(log, blocks, through)
    return len(blocks) + len({address for address in kept if address != 0 and address not in staying})


def _staying_addresses(log, blocks, through):
    """Return a dict whose keys are the addresses of the present table that the result needs, too."""
    staying = {}
    for ident, address in enumerate(log.present):
        if address == 0 or ident not in blocks or payload_at(log, address) != blocks[ident]:
            continue
        # A block that another result replaces first is written anew, even if it is the same again then.
        if through is None or (ident in through and through[ident] == blocks[ident]):
            staying[address] = True
    return staying

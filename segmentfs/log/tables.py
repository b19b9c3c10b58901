"""Tables: where the blocks of the ids lie."""


def empty_table(layout):
    """Return a table without addresses."""
    return [0] * (layout.last_id + 1)


def copy_of_table(table):
    """Return a copy of a table, or None for None."""
    if table is None:
        return None
    return list(table)


def commit_to_table(table, start, ids, used):
    """Return what a commit makes of the table."""
    in_use = set(used)
    changed = list(table)
    for place, ident in enumerate(ids):
        if 0 < ident < len(table):
            changed[ident] = start + place
    return [address if ident in in_use else 0 for ident, address in enumerate(changed)]


def slots_after(slots, table, action):
    """Return what an action makes of the slots if this is the present table."""
    changed = [copy_of_table(slot) for slot in slots]
    if 1 <= action <= 3:
        changed[action - 1] = list(table)
    elif 4 <= action <= 6:
        changed[action - 4] = None
    return changed


def move_in_table(table, start, addresses):
    """Return what a move makes of the table."""
    moved = {}
    for place, address in enumerate(addresses):
        moved.setdefault(address, start + place)
    return [0 if address == 0 else moved.get(address, address) for address in table]

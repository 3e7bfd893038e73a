"""Records: what the slots of a fast disk have, tuples (block, value, turn, is_dirty)."""

# Where each part of a record stands.
BLOCK = 0
VALUE = 1
TURN = 2
IS_DIRTY = 3


def cleaned(record):
    block, value, turn, _ = record
    return (block, value, turn, False)


def newest_dirty(contents):
    """The slot of each block's dirty record that a restart takes as its value."""
    newest = {}
    for slot, record in enumerate(contents):
        if record is None or not record[IS_DIRTY]:
            continue
        block = record[BLOCK]
        if block not in newest or record[TURN] > contents[newest[block]][TURN]:
            newest[block] = slot
    return newest


def values_after_restart(slow_contents, fast_contents):
    """The values of all blocks if a restart finds these contents."""
    values = list(slow_contents)
    for block, slot in newest_dirty(fast_contents).items():
        values[block] = fast_contents[slot][VALUE]
    return tuple(values)

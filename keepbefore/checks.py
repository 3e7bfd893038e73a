"""What counts as a number, and which sizes a pair can have."""

from keepbefore.errors import InvalidSize

MOST_BLOCKS = 16
MOST_SLOTS = 8
MOST_VALUE = 999


def is_number(thing):
    # Python takes True and False for integers; here they are no numbers.
    return isinstance(thing, int) and not isinstance(thing, bool)


def is_number_from(thing, least, most):
    return is_number(thing) and least <= thing <= most


def check_blocks(blocks, most=MOST_BLOCKS):
    if not is_number_from(blocks, 1, most):
        raise InvalidSize(f"a slow disk has 1 to {most} blocks here")


def check_slots(slots, most=MOST_SLOTS):
    if not is_number_from(slots, 1, most):
        raise InvalidSize(f"a fast disk has 1 to {most} slots here")

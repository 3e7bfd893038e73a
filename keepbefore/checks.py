"""What counts as a number."""


def is_number(thing):
    # Python takes True and False for integers; here they are no numbers.
    return isinstance(thing, int) and not isinstance(thing, bool)


def is_number_from(thing, least, most):
    return is_number(thing) and least <= thing <= most

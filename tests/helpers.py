"""What several tests need: examples as the document writes them, and things of other kinds."""

import ast
import re

from keepbefore import errors

# One of each kind that an argument with an error may be, and numbers far off.
OTHER_KINDS = [
    None, True, False, "", "0", "1", "slow", "back", (), (0,), (1, 2), (None,), ("done",),
    [], [0], [1, 2], ["done"], [None], -1, -10 ** 30, 10 ** 30,
]


def example_result(text):
    """What an example of the document gives, and what it says: two values or two errors."""
    code = [line[4:] for line in text.splitlines() if line.startswith(">>> ")]
    told = [line for line in text.splitlines() if line and not line.startswith(">>> ")]
    [told] = told
    names = {}
    for line in code[:-1]:
        exec(line, names)
    raised = re.fullmatch(r"raises (\w+)\((.*)\)", told)
    if raised is None:
        return ("value", eval(code[-1], names)), ("value", ast.literal_eval(told))
    words = dict(part.split("=") for part in raised.group(2).split(", ") if part)
    attributes = {name: ast.literal_eval(word) for name, word in words.items()}
    try:
        result = ("value", eval(code[-1], names))
    except errors.PairError as error:
        result = (error.__class__.__name__, vars(error))
    return result, (raised.group(1), attributes)


def kept_parts(many):
    """All tuples of ascending numbers below `many`."""
    return [tuple(at for at in range(many) if bits >> at & 1) for bits in range(1 << many)]

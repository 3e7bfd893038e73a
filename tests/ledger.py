"""What can be by the main promise, as the tests tell it by themselves: own lists of values, entry by entry."""


class Ledger:
    """For each block the list of all values that it can have."""

    def __init__(self, blocks):
        self.values = [[0] for _ in range(blocks)]
        self.begun = None

    def can_be(self, entry):
        """Whether a well-formed entry can be now."""
        word = entry[0]
        if word == "fail":
            return True
        if word == "done":
            return self.begun is not None
        return self.begun is None and (word != "read" or entry[2] in self.values[entry[1]])

    def note(self, entry):
        word, *rest = entry
        if word == "read":
            self.values[rest[0]] = [rest[1]]
        elif word == "begin":
            self.begun = rest
        elif word == "lost":
            self.values[rest[0]] = list(range(1000))
        elif self.begun is not None:
            block, value = self.begun
            self.values[block] = [value] if word == "done" else [*self.values[block], value]
            self.begun = None

    def shown(self):
        values = [set(some) for some in self.values]
        if self.begun is not None:
            values[self.begun[0]].add(self.begun[1])
        return [[-1] if len(some) == 1000 else sorted(some) for some in values]


def any_entry(source, ledger, most=999):
    """A well-formed entry that can be now."""
    blocks = len(ledger.values)
    while True:
        block = source.randrange(blocks)
        entry = source.choice([
            ("read", block, source.choice(ledger.values[block])), ("read", block, source.choice(ledger.values[block])),
            ("begin", block, source.randint(0, most)), ("done",), ("fail",), ("lost", block),
        ])
        if ledger.can_be(entry):
            return entry


def any_log(source, blocks, many, most=999):
    """A log that can be, and the ledger behind it."""
    ledger, log = Ledger(blocks), []
    for _ in range(many):
        log.append(any_entry(source, ledger, most))
        ledger.note(log[-1])
    return log, ledger

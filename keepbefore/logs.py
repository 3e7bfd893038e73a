"""Logs of what happened to a pair: whether they can be by the main promise, and recorders that keep them."""

from keepbefore.checks import MOST_VALUE, check_blocks, is_number_from
from keepbefore.errors import PowerFailed

# The word of each kind of entry, and how long such an entry is.
ENTRY_FORMS = (("read", 3), ("begin", 3), ("done", 1), ("fail", 1), ("lost", 2))
ANY_VALUE = -1


class Possibilities:
    """The values that each block can have behind the entries of a log, and the write that is under way."""

    def __init__(self, blocks):
        self._values = [[0] for _ in range(blocks)]
        self._under_way = None

    def follow(self, entry):
        """Goes on by an entry of a right form; returns whether it can be, and stays as it is if not."""
        word = entry[0]
        if word == "fail":
            self._values = self.values_now()
            self._under_way = None
            return True
        # A write has to be under way for "done", and none may be for any other word.
        if (self._under_way is None) == (word == "done"):
            return False
        if word == "done":
            block, value = self._under_way
            self._values[block] = [value]
            self._under_way = None
        elif word == "begin":
            self._under_way = entry[1:]
        elif word == "lost":
            self._values[entry[1]] = list(range(MOST_VALUE + 1))
        elif entry[2] not in self._values[entry[1]]:
            return False
        else:
            self._values[entry[1]] = [entry[2]]
        return True

    def values_now(self):
        """For each block what it can have: of a write under way, the values ahead of it and its own."""
        values = [list(some) for some in self._values]
        if self._under_way is not None:
            block, value = self._under_way
            if value not in values[block]:
                values[block].append(value)
        return values


class Recorder:
    """Carries out calls of a pair and keeps the log of them."""

    def __init__(self, pair):
        self._pair = pair
        self._log = []

    @property
    def log(self):
        return list(self._log)

    def read(self, block):
        try:
            value = self._pair.read(block)
        except PowerFailed:
            self._log.append(("fail",))
            raise
        self._log.append(("read", block, value))
        return value

    def write(self, block, value):
        try:
            was_hit = self._pair.write(block, value)
        except PowerFailed as failed:
            self._log.append(("begin", block, value))
            if failed.is_done:
                self._log.append(("done",))
            self._log.append(("fail",))
            raise
        self._log.extend([("begin", block, value), ("done",)])
        return was_hit

    def fail_at(self, steps):
        self._pair.fail_at(steps)

    def cut(self):
        self._pair.cut()
        self._log.append(("fail",))

    def restart(self, slow_kept, fast_kept):
        return self._pair.restart(slow_kept, fast_kept)

    def resume(self):
        if self._pair.is_on:
            return False
        self._pair.restart((), ())
        return True

    def lose_fast(self):
        lost = self._pair.lose_fast()
        self._note_lost(lost)
        return lost

    def lose_slow(self):
        # Ahead of the call, as the pair has forgotten all records when the power has failed in it.
        blocks = len(self._pair.block_values)
        dirty = self._pair.dirty
        try:
            lost = self._pair.lose_slow()
        except PowerFailed:
            self._note_lost([block for block in range(blocks) if block not in dirty])
            self._log.append(("fail",))
            raise
        self._note_lost(lost)
        return lost

    def _note_lost(self, blocks):
        for block in blocks:
            self._log.append(("lost", block))


def first_error(blocks, log):
    """The index of the first entry that cannot be, or None."""
    return _walk(blocks, log)[0]


def possible_values(blocks, log):
    """For each block the ascending list of the values that it can have, [-1] for all; None if the log has an error."""
    error, walked = _walk(blocks, log)
    if error is not None:
        return None
    return [[ANY_VALUE] if len(values) > MOST_VALUE else sorted(values) for values in walked.values_now()]


def _walk(blocks, log):
    """The index of the first entry that cannot be, and what can be ahead of it."""
    check_blocks(blocks)
    walked = Possibilities(blocks)
    if not isinstance(log, list):
        return (0, walked)
    for index, entry in enumerate(log):
        if not _has_form(entry, blocks) or not walked.follow(entry):
            return (index, walked)
    return (None, walked)


def _has_form(entry, blocks):
    if not isinstance(entry, tuple) or not entry or (entry[0], len(entry)) not in ENTRY_FORMS:
        return False
    if len(entry) > 1 and not is_number_from(entry[1], 0, blocks - 1):
        return False
    return len(entry) < 3 or is_number_from(entry[2], 0, MOST_VALUE)

"""The fewest misses that reads can have, and plans of what to keep for them."""

from keepbefore.checks import check_slots, is_number, is_number_from
from keepbefore.errors import InvalidPlan, InvalidRequests

MOST_READS = 14
MOST_READ_BLOCK = 15


def fewest_misses(slots, blocks):
    """The least number of misses of these reads, and a plan that has so many."""
    _check_reads(slots, blocks)
    kept = []
    plan = []
    for at, block in enumerate(blocks):
        entry = _best_entry(slots, kept, block, blocks[at + 1:])
        kept = _kept_after(kept, block, entry)
        plan.append(entry)
    return (judge_plan(slots, blocks, plan), plan)


def judge_plan(slots, blocks, plan):
    """How many misses a plan has."""
    _check_reads(slots, blocks)
    if not isinstance(plan, list):
        raise InvalidPlan(0)
    kept = []
    misses = 0
    for at, block in enumerate(blocks):
        if at == len(plan) or not _can_be(slots, kept, block, plan[at]):
            raise InvalidPlan(at)
        if block not in kept:
            misses += 1
        kept = _kept_after(kept, block, plan[at])
    if len(plan) > len(blocks):
        raise InvalidPlan(len(blocks))
    return misses


def _check_reads(slots, blocks):
    check_slots(slots)
    if not isinstance(blocks, list):
        raise InvalidRequests(0)
    for index, block in enumerate(blocks):
        if index == MOST_READS or not is_number_from(block, 0, MOST_READ_BLOCK):
            raise InvalidRequests(index)


def _best_entry(slots, kept, block, later):
    """No plan misses less than one that, of the kept blocks and the missed one, does without that read last."""
    if block in kept:
        return None
    if len(kept) < slots:
        return "keep"
    waits = [(_wait(other, later), other) for other in kept]
    wait, other = max(waits)
    if wait > _wait(block, later):
        return other
    return None


def _wait(block, later):
    """How many reads there are ahead of the next one of a block."""
    if block in later:
        return later.index(block)
    return len(later)


def _can_be(slots, kept, block, entry):
    if entry is None:
        return True
    if block in kept:
        return False
    if entry == "keep":
        return len(kept) < slots
    return is_number(entry) and entry in kept


def _kept_after(kept, block, entry):
    """The kept blocks behind a read, of which the plan has this entry."""
    if entry is None:
        return kept
    return [other for other in kept if other != entry] + [block]

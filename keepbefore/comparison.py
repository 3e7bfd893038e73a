"""The first requests by which two rules part."""

from keepbefore.checks import check_blocks, check_slots, is_number_from
from keepbefore.costs import run
from keepbefore.errors import InvalidCount

MOST_PARTING_BLOCKS = 3
MOST_PARTING_SLOTS = 3
MOST_PARTING_REQUESTS = 4
PARTING_VALUE = 1


def first_parting(blocks, slots, rules, other, *, most=3):
    """The first requests, at most so many, of which results or counts are not the same by both rules; or None."""
    check_blocks(blocks, MOST_PARTING_BLOCKS)
    check_slots(slots, MOST_PARTING_SLOTS)
    if not is_number_from(most, 0, MOST_PARTING_REQUESTS):
        raise InvalidCount(f"a greatest number of requests is from 0 to {MOST_PARTING_REQUESTS}")
    singles = _single_requests(blocks)
    all_requests = [[]]
    for _ in range(most):
        # Both are in list order, so these are, too.
        all_requests = [[*ahead, request] for ahead in all_requests for request in singles]
        for requests in all_requests:
            if run(blocks, slots, rules, requests) != run(blocks, slots, other, requests):
                return requests
    return None


def _single_requests(blocks):
    """Each request with the value of all writes here, in ascending order."""
    reads = [("read", block) for block in range(blocks)]
    return reads + [("write", block, PARTING_VALUE) for block in range(blocks)]

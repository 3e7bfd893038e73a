"""Requests: tuples ("read", block) and ("write", block, value), and how a pair carries them out."""

from keepbefore.checks import MOST_VALUE, is_number_from
from keepbefore.errors import InvalidRequests

MOST_REQUESTS = 40


def check_requests(requests, blocks, most=MOST_REQUESTS):
    """Raises InvalidRequests unless this is a list of at most so many requests of so many blocks."""
    if not isinstance(requests, list):
        raise InvalidRequests(0)
    for index, request in enumerate(requests):
        if index == most or not _is_request(request, blocks):
            raise InvalidRequests(index)


def _is_request(request, blocks):
    if not isinstance(request, tuple) or len(request) < 2 or not is_number_from(request[1], 0, blocks - 1):
        return False
    if request[0] == "read":
        return len(request) == 2
    return request[0] == "write" and len(request) == 3 and is_number_from(request[2], 0, MOST_VALUE)


def carry_out(pair, requests):
    """Carries out valid requests and returns the list of their results."""
    results = []
    for request in requests:
        if request[0] == "read":
            results.append(pair.read(request[1]))
        else:
            results.append(pair.write(request[1], request[2]))
    return results


def which_hit(pair, requests):
    """Carries out valid requests and returns which of them are hits, a list of booleans."""
    are_hits = []
    for request in requests:
        hits = pair.hits
        carry_out(pair, [request])
        are_hits.append(pair.hits > hits)
    return are_hits

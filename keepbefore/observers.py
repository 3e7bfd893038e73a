"""Observers, who find out the rules of a pair by what requests cost there, or by which ones hit."""

from keepbefore.checks import check_blocks, check_slots, is_number_from
from keepbefore.costs import all_triples, run
from keepbefore.errors import Contradiction, InvalidCount, InvalidRequests
from keepbefore.pairs import Pair
from keepbefore.requests import check_requests, which_hit
from keepbefore.rules import MOST_BOUND, Rules


class RulesObserver:
    """Knows the sizes of a pair and its bound, and keeps the other rules that explain all observations."""

    def __init__(self, blocks, slots, bound):
        check_blocks(blocks)
        check_slots(slots)
        if not is_number_from(bound, 0, MOST_BOUND):
            raise InvalidCount(f"a bound is a number from 0 to {MOST_BOUND}")
        self._blocks = blocks
        self._slots = slots
        self._bound = bound
        self._candidates = all_triples()
        self._history = []

    @classmethod
    def from_history(cls, blocks, slots, bound, history):
        observer = cls(blocks, slots, bound)
        for name, requests, *seen in history:
            if name == "see":
                observer.see(requests, seen[0])
            else:
                observer.see_hits(requests, *seen)
        return observer

    @property
    def candidates(self):
        return list(self._candidates)

    @property
    def history(self):
        # The lists of requests are new, too, as a caller may modify them.
        return [(name, list(requests), *seen) for name, requests, *seen in self._history]

    def see(self, requests, counts):
        check_requests(requests, self._blocks)
        remaining = [triple for triple in self._candidates if self._counts_by(triple, requests) == counts]
        return self._accept(remaining, ("see", list(requests), counts))

    def see_hits(self, requests, *are_hits):
        check_requests(requests, self._blocks)
        if len(are_hits) != len(requests) or not all([isinstance(is_hit, bool) for is_hit in are_hits]):
            raise InvalidCount("not a boolean for each request")
        remaining = [triple for triple in self._candidates if self._hits_by(triple, requests) == list(are_hits)]
        return self._accept(remaining, ("see_hits", list(requests), *are_hits))

    def possible_counts(self, requests):
        check_requests(requests, self._blocks)
        return sorted(self._many_by_counts(requests))

    def best_requests(self, lists):
        if not isinstance(lists, list):
            raise InvalidRequests(0)
        for requests in lists:
            check_requests(requests, self._blocks)
        if not lists:
            raise InvalidCount("there are no requests to choose from")
        worst = [max(self._many_by_counts(requests).values()) for requests in lists]
        return worst.index(min(worst))

    def _accept(self, remaining, observation):
        """Knows an observation that leaves these candidates, and returns how many they are."""
        if not remaining:
            raise Contradiction("no candidate explains this")
        self._candidates = remaining
        self._history.append(observation)
        return len(remaining)

    def _rules_of(self, triple):
        writing, reading, choice = triple
        return Rules(writing, reading, choice, self._bound)

    def _counts_by(self, triple, requests):
        return run(self._blocks, self._slots, self._rules_of(triple), requests)[1]

    def _hits_by(self, triple, requests):
        return which_hit(Pair(self._blocks, self._slots, self._rules_of(triple)), requests)

    def _many_by_counts(self, requests):
        """For each counts that there can be, how many candidates lead to them."""
        many = {}
        for triple in self._candidates:
            counts = self._counts_by(triple, requests)
            many[counts] = many.get(counts, 0) + 1
        return many

"""What requests cost, and by which rules they cost least."""

from keepbefore.checks import check_blocks, check_slots, is_number_from
from keepbefore.errors import InvalidCount, InvalidPrices
from keepbefore.pairs import Pair
from keepbefore.requests import carry_out, check_requests
from keepbefore.rules import MOST_BOUND, RULE_WORDS, Rules

MANY_PRICES = 6
MOST_PRICE = 999


def cost(counts, prices):
    """The sum of all counts times their prices."""
    check_prices(prices)
    return sum([count * price for count, price in zip(counts, prices)])


def run(blocks, slots, rules, requests):
    """The results of all requests, and the counts of a new pair that carried them out."""
    pair = Pair(blocks, slots, rules)
    check_requests(requests, blocks)
    results = carry_out(pair, requests)
    return (results, pair.counts)


def cheapest(blocks, slots, bound, requests, prices):
    """The lowest cost, and all triples (write, read, choice) of rules with this bound that have it."""
    check_blocks(blocks)
    check_slots(slots)
    if not is_number_from(bound, 0, MOST_BOUND):
        raise InvalidCount(f"a bound is a number from 0 to {MOST_BOUND}")
    check_requests(requests, blocks)
    check_prices(prices)
    costs = {}
    for triple in all_triples():
        rules = Rules(triple[0], triple[1], triple[2], bound)
        counts = run(blocks, slots, rules, requests)[1]
        costs[triple] = cost(counts, prices)
    lowest = min(costs.values())
    return (lowest, [triple for triple in costs if costs[triple] == lowest])


def check_prices(prices):
    """Raises InvalidPrices unless this is a tuple of six prices."""
    if not isinstance(prices, tuple):
        raise InvalidPrices(0)
    for index in range(MANY_PRICES):
        if index == len(prices) or not is_number_from(prices[index], 0, MOST_PRICE):
            raise InvalidPrices(index)
    if len(prices) > MANY_PRICES:
        raise InvalidPrices(MANY_PRICES)


def all_triples():
    """All words (write, read, choice) that rules can have, in ascending order."""
    writings, readings, choices = RULE_WORDS
    return sorted([
        (writing, reading, choice)
        for writing in writings for reading in readings for choice in choices
    ])

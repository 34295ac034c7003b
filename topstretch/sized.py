"""Stretches of told lengths: the best one, and how many have a sum."""

from topstretch.errors import NoLength
from topstretch.plain import sums_ahead


def longest_of(many, least, most):
    if least < 1 or most < least or least > many:
        raise NoLength("no such lengths in the row")
    return min(most, many)


def enter_first(firsts, ahead, first):
    # A first with more ahead of it than a later one is never the best again;
    # one with as much stays, for it is the lesser first.
    while firsts and ahead[firsts[-1]] > ahead[first]:
        firsts.pop()
    firsts.append(first)


def best_sized(row, least, most):
    longest = longest_of(len(row), least, most)
    ahead = sums_ahead(row)
    firsts = []
    best = None
    for beyond in range(least, len(row) + 1):
        enter_first(firsts, ahead, beyond - least)
        # The firsts rise, and by each step just one gets too far off.
        if firsts[0] < beyond - longest:
            firsts.pop(0)
        total = ahead[beyond] - ahead[firsts[0]]
        # First and beyond only rise, so of equal sums the one met first is due.
        if best is None or total > best[0]:
            best = (total, firsts[0], beyond)
    return best


def how_many_just(row, least, most, told):
    longest = longest_of(len(row), least, most)
    ahead = sums_ahead(row)
    seen = {}
    many = 0
    for beyond in range(least, len(row) + 1):
        entered = ahead[beyond - least]
        seen[entered] = seen.get(entered, 0) + 1
        if beyond > longest:
            left = ahead[beyond - longest - 1]
            seen[left] = seen[left] - 1
        many += seen.get(ahead[beyond] - told, 0)
    return many


def how_many_above(row, least, most, told):
    longest = longest_of(len(row), least, most)
    ahead = sums_ahead(row)
    many = 0
    for beyond in range(least, len(row) + 1):
        for first in range(max(0, beyond - longest), beyond - least + 1):
            if ahead[beyond] - ahead[first] >= told:
                many += 1
    return many

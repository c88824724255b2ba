"""Rings, how long one waits for them, and when all settles."""

from leadson.checks import check_leading
from leadson.leadings import path_from


def rings(leading):
    check_leading(leading)
    return rings_of(leading)


def waits(leading):
    check_leading(leading)
    known = {}
    for ring in rings_of(leading):
        for place in ring:
            known[place] = 0
    for start in range(len(leading)):
        # Backwards along the tail, so that the place to which one leads is always known already.
        for place in reversed(tail_from(leading, start, known)):
            known[place] = known[leading[place]] + 1
    return [known[place] for place in range(len(leading))]


def settled(leading):
    wait = max(waits(leading), default=0)
    turns = 1
    for ring in rings_of(leading):
        turns = least_multiple(turns, len(ring))
    return (wait, turns)


def rings_of(leading):
    found = []
    walked = {}
    for start in range(len(leading)):
        here = start
        while here not in walked:
            walked[here] = start
            here = leading[here]
        # A walk that ends on itself, not on an earlier one, has gone round a ring that no other has.
        if walked[here] == start:
            found.append(from_least(path_from(leading, here)))
    return sorted(found)


def rings_of_length(leading, length):
    return [ring for ring in rings_of(leading) if len(ring) == length]


def from_least(ring):
    first = ring.index(min(ring))
    return ring[first:] + ring[:first]


def tail_from(leading, start, known):
    tail = []
    here = start
    while here not in known:
        tail.append(here)
        here = leading[here]
    return tail


def least_multiple(one, other):
    return one * other // greatest_divisor(one, other)


def greatest_divisor(one, other):
    while other > 0:
        rest = one % other
        one = other
        other = rest
    return one

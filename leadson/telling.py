"""What is told of a leading: by which steps one comes somewhere, or what shows that one doesn't; and roots."""

from leadson.answers import Apart, Met, Odd, Root, Shut, Steps
from leadson.checks import check_back, check_leading, check_place
from leadson.leadings import landings, path_from
from leadson.rings import rings_of


def reached(leading, one, other):
    check_ways(leading, one, other)
    path = path_from(leading, one)
    if other in path:
        return Steps(path.index(other))
    return Shut(sorted(path))


def comes(leading, one, other):
    check_ways(leading, one, other)
    counts = dict([(place, count) for count, place in enumerate(path_from(leading, one))])
    for count, place in enumerate(path_from(leading, other)):
        if place in counts:
            return Met(counts[place], count)
    return Apart(all_about(leading, one))


def root(leading):
    check_leading(leading)
    check_back(leading)
    alike = by_length(rings_of(leading))
    for length in sorted(alike):
        if length % 2 == 0 and len(alike[length]) % 2 == 1:
            return Odd(length, alike[length])
    ends = [0] * len(leading)
    for length in alike:
        for ring in root_rings(alike[length], length):
            lead_round(ends, ring)
    return Root(ends)


def check_ways(leading, one, other):
    check_leading(leading)
    check_place(leading, one)
    check_place(leading, other)


def all_about(leading, one):
    # Two places lie together where one comes from both to the same ring.
    landed = landings(leading)
    ring = path_from(leading, landed[one])
    among = dict([(place, True) for place in ring])
    return [start for start, end in enumerate(landed) if end in among]


def by_length(found):
    alike = {}
    for ring in found:
        alike.setdefault(len(ring), []).append(ring)
    return alike


def root_rings(alike, length):
    # A ring of odd length done twice is one ring again, but one of even length falls into two of half
    # its length: so each odd ring has a root of its own, while the even ones share one, two and two.
    if length % 2 == 1:
        return [halved(ring) for ring in alike]
    return [woven(alike[at], alike[at + 1]) for at in range(0, len(alike), 2)]


def halved(ring):
    # So many steps, done twice, are one whole turn and one step.
    length = len(ring)
    half = (length + 1) // 2
    return [ring[turn * half % length] for turn in range(length)]


def woven(one, other):
    both = []
    for mine, theirs in zip(one, other):
        both.append(mine)
        both.append(theirs)
    return both


def lead_round(ends, ring):
    for start, end in zip(ring, ring[1:] + ring[:1]):
        ends[start] = end

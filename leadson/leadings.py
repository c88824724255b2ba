"""Leadings done so often, one behind the other, and taken back."""

from leadson.checks import check_back, check_leading, check_place, check_steps
from leadson.errors import Unlike


def times(leading, steps):
    check_leading(leading)
    check_steps(steps)
    return done(leading, steps)


def after(leading, place, steps):
    check_leading(leading)
    check_place(leading, place)
    check_steps(steps)
    path = path_from(leading, place)
    if steps < len(path):
        return path[steps]
    first = path.index(leading[path[-1]])
    return path[first + (steps - first) % (len(path) - first)]


def comers(leading, place, steps):
    check_leading(leading)
    check_place(leading, place)
    check_steps(steps)
    return [start for start, end in enumerate(done(leading, steps)) if end == place]


def behind(one, other):
    check_leading(one)
    check_leading(other)
    if len(one) != len(other):
        raise Unlike("the two leadings have other counts of places")
    return [other[place] for place in one]


def undone(leading):
    check_leading(leading)
    check_back(leading)
    starts = [0] * len(leading)
    for start, end in enumerate(leading):
        starts[end] = start
    return starts


def path_from(leading, place):
    # A dict keeps the order in which its keys came: the places, each once, in the turn they are come to.
    seen = {}
    here = place
    while here not in seen:
        seen[here] = True
        here = leading[here]
    return list(seen)


def done(leading, steps):
    count = len(leading)
    if steps <= count:
        return done_few(leading, steps)
    # On a ring whole turns change nothing: so the work doesn't grow with the steps, however great they are.
    return turned(leading, landings(leading), steps - count)


def landings(leading):
    # After as many steps as there are places one is on a ring wherever one began.
    return done_few(leading, len(leading))


def done_few(leading, steps):
    # Doubling: the leading done 1, 2, 4, 8 .. times, of which those that add up to the steps are taken.
    ends = list(range(len(leading)))
    doubled = list(leading)
    left = steps
    while left > 0:
        if left % 2 == 1:
            ends = [doubled[end] for end in ends]
        doubled = [doubled[end] for end in doubled]
        left = left // 2
    return ends


def turned(leading, landed, steps):
    # Each place of landed is on a ring, so the path from it is that ring.
    ends = {}
    for place in landed:
        if place not in ends:
            ring = path_from(leading, place)
            shift = steps % len(ring)
            for start, end in zip(ring, ring[shift:] + ring[:shift]):
                ends[start] = end
    return [ends[place] for place in landed]

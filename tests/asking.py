"""What the tests share: what is none of the kinds asked for, small leadings, and slow, plain ways to tell."""

import copy
import itertools
import unittest

GREAT = 10 ** 100
# Too many digits for Python to write out.
HUGE = 10 ** 5000

NO_LEADINGS = (
    None, True, False, 0, 1, "", "0", (), (0,), {}, {0: 0}, {0}, 1.0, range(1), object(),
    [True], [False], ["0"], [None], [[]], [[0]], [(0,)], [0.0], [object()],
    [0, True], [0, False], [1, "0"], [1, None], [0, [0]],
    [-1], [1], [0, 2], [0, -1], [-1, 0], [2, 0], [1, 2, 3], [HUGE], [-HUGE],
)
NO_NUMBERS = (True, False, "", "0", None, [], [0], (0,), {}, 0.0, 1.0, object())
NO_STEPS = NO_NUMBERS + (-1, -2, -GREAT, -HUGE)


def no_places(leading):
    return NO_NUMBERS + (-1, -2, len(leading), len(leading) + 1, -len(leading) - 1, HUGE, -HUGE)


def all_leadings(most):
    for count in range(most + 1):
        for ends in itertools.product(range(count), repeat=count):
            yield list(ends)


def all_back(most):
    """Those that can be taken back."""
    for count in range(most + 1):
        for ends in itertools.permutations(range(count)):
            yield list(ends)


def ringed(*lengths):
    """A leading of rings of these lengths, one behind the other."""
    leading = []
    for length in lengths:
        first = len(leading)
        leading += [first + turn for turn in range(1, length)] + [first]
    return leading


def step_by_step(leading, place, steps):
    for done in range(steps):
        place = leading[place]
    return place


def on_a_ring(leading, place):
    return any(step_by_step(leading, place, steps) == place for steps in range(1, len(leading) + 1))


def rings_by_hand(leading):
    found = []
    for place in range(len(leading)):
        if on_a_ring(leading, place):
            ring = [place]
            while leading[ring[-1]] != place:
                ring.append(leading[ring[-1]])
            if min(ring) == place:
                found.append(ring)
    return found


def numbers_within(told):
    if isinstance(told, (list, tuple)):
        return [number for part in told for number in numbers_within(part)]
    return [told]


class Asking(unittest.TestCase):
    def refused(self, refusal, asked, *handed):
        """Refused as that very class, with nothing that was handed in changed."""
        before = [list(one) if isinstance(one, list) else one for one in handed]
        with self.assertRaises(refusal) as caught:
            asked(*handed)
        self.assertIs(caught.exception.__class__, refusal)
        for had, one in zip(before, handed):
            self.assertEqual(had, one)

    def own(self, asked, *handed):
        """Told anew each time, and the asker's own, the lists within too."""
        copies = copy.deepcopy(handed)
        told = asked(*handed)
        self.assertIs(told.__class__, list)
        kept = copy.deepcopy(told)
        for one in handed:
            self.assertIsNot(told, one)
        for within in told:
            if isinstance(within, list):
                within.append(0)
                within[0] = "changed"
        told.append(0)
        told[0] = "changed"
        told.reverse()
        self.assertEqual(handed, copies)
        self.assertEqual(asked(*handed), kept)

    def not_kept(self, asked, leading, *others):
        """A leading changed after one asked is seen as it stands then."""
        first = copy.deepcopy(asked(leading, *others))
        kept = list(leading)
        leading[:] = list(range(len(leading)))
        self.assertEqual(asked(leading, *others), asked(list(leading), *others))
        leading[:] = kept
        self.assertEqual(asked(leading, *others), first)

    def whole_numbers(self, told):
        for number in numbers_within(told):
            self.assertIs(number.__class__, int)

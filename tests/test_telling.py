import copy
import itertools

from leadson.answers import Apart, Met, Odd, Root, Shut, Steps
from leadson.errors import BadLeading, BadPlace, NotBack
from leadson.telling import comes, reached, root
from tests.asking import (
    NO_LEADINGS, Asking, all_back, all_leadings, no_places, ringed, rings_by_hand, step_by_step,
)


def ways(most):
    for leading in all_leadings(most):
        for one, other in itertools.product(range(len(leading)), repeat=2):
            yield leading, one, other


def all_places(leading, one):
    """The places to which one comes from there."""
    return {step_by_step(leading, one, steps) for steps in range(len(leading))}


class Telling(Asking):
    def told(self, kind, asked, *handed):
        """An answer of that very class, whose own shows is True, with nothing that was handed in changed."""
        before = copy.deepcopy(handed)
        answer = asked(*handed)
        if answer.__class__ is not kind:
            self.fail((asked.__name__, handed, answer.__class__.__name__, vars(answer)))
        self.assertIs(answer.shows(*handed), True)
        self.whole_numbers(list(vars(answer).values()))
        self.assertEqual(handed, before)
        return answer

    def refuses_ways(self, asked):
        for wrong in NO_LEADINGS:
            self.refused(BadLeading, asked, wrong, 0, 0)
            self.refused(BadLeading, asked, wrong, -1, 0)
            self.refused(BadLeading, asked, wrong, 0, None)
            self.refused(BadLeading, asked, wrong, None, None)
        for leading in ([0], [1, 0], [1, 2, 0, 0]):
            for wrong in no_places(leading):
                for right in range(len(leading)):
                    self.refused(BadPlace, asked, leading, wrong, right)
                    self.refused(BadPlace, asked, leading, right, wrong)
                self.refused(BadPlace, asked, leading, wrong, wrong)
        for wrong in no_places([]):
            self.refused(BadPlace, asked, [], wrong, wrong)
            self.refused(BadPlace, asked, [], 0, wrong)

    def own_field(self, name, asked, *handed):
        """The list is the asker's own: changed it changes neither what was handed in nor what is told anew."""
        before = copy.deepcopy(handed)
        first = asked(*handed)
        kept = copy.deepcopy(getattr(first, name))
        second = asked(*handed)
        field = getattr(first, name)
        self.assertIs(field.__class__, list)
        for within in field:
            if isinstance(within, list):
                within.append(0)
        field.append(0)
        field[0] = "changed"
        self.assertEqual(handed, before)
        self.assertEqual(getattr(second, name), kept)
        self.assertEqual(getattr(asked(*handed), name), kept)
        self.assertIs(second.shows(*handed), True)

    def fields_not_kept(self, asked, leading, *others):
        """A leading changed afterwards doesn't change the answer, and is asked of as it stands then."""
        answer = asked(leading, *others)
        fields = copy.deepcopy(vars(answer))
        was = list(leading)
        leading[:] = list(range(len(leading)))
        self.assertEqual(vars(answer), fields)
        self.assertEqual(vars(asked(leading, *others)), vars(asked(list(leading), *others)))
        self.assertIs(answer.shows(was, *others), True)


class Reached(Telling):
    def test_steps(self):
        self.assertEqual(self.told(Steps, reached, [1, 2, 0, 0], 3, 2).many % 3, 0)
        self.assertEqual(self.told(Steps, reached, [1, 2, 3, 3], 0, 2).many, 2)

    def test_the_one_and_the_other_one_place(self):
        for leading in all_leadings(4):
            for place in range(len(leading)):
                self.told(Steps, reached, leading, place, place)
        # On a tail one never comes back.
        self.assertEqual(reached([1, 1], 0, 0).many, 0)

    def test_shut(self):
        self.assertEqual(sorted(set(self.told(Shut, reached, [1, 2, 3, 3], 2, 1).places)), [2, 3])
        self.told(Shut, reached, [0, 1], 0, 1)
        self.told(Shut, reached, [1, 2, 0, 0], 0, 3)

    def test_all_small_leadings(self):
        for leading, one, other in ways(4):
            if other in all_places(leading, one):
                many = self.told(Steps, reached, leading, one, other).many
                self.assertGreaterEqual(many, 0)
                self.assertEqual(step_by_step(leading, one, many), other)
            else:
                places = self.told(Shut, reached, leading, one, other).places
                self.assertIn(one, places)
                self.assertNotIn(other, places)
                for place in places:
                    self.assertIn(place, range(len(leading)))
                    self.assertIn(leading[place], places)

    def test_many_places(self):
        count = 20000
        self.assertEqual(self.told(Steps, reached, ringed(count), 1, 0).many % count, count - 1)
        self.told(Steps, reached, [0] + list(range(count - 1)), count - 1, 0)
        self.told(Shut, reached, [0] + list(range(count - 1)), count - 2, count - 1)

    def test_refusals(self):
        self.refuses_ways(reached)

    def test_told_is_new(self):
        self.own_field("places", reached, [1, 2, 0, 0], 0, 3)
        self.own_field("places", reached, [0, 1], 0, 1)
        self.fields_not_kept(reached, [1, 2, 0, 0], 0, 3)
        self.fields_not_kept(reached, [1, 2, 0, 0], 3, 2)


class Comes(Telling):
    def test_met(self):
        self.told(Met, comes, [1, 2, 0, 0], 3, 2)
        self.told(Met, comes, [2, 2, 2], 0, 1)
        self.told(Met, comes, [2, 3, 4, 4, 4], 0, 1)
        self.told(Met, comes, [1, 2, 3, 3], 0, 2)
        self.told(Met, comes, [1, 2, 3, 3], 2, 0)

    def test_the_one_and_the_other_one_place(self):
        for leading in all_leadings(4):
            for place in range(len(leading)):
                self.told(Met, comes, leading, place, place)

    def test_apart(self):
        self.assertEqual(sorted(set(self.told(Apart, comes, [0, 1], 0, 1).places)), [0])
        # All that comes to the ring of the one, not what one comes to from it alone.
        leading = [1, 0, 0, 2, 4, 4]
        self.assertEqual(sorted(set(self.told(Apart, comes, leading, 2, 5).places)), [0, 1, 2, 3])
        self.assertEqual(sorted(set(self.told(Apart, comes, leading, 0, 4).places)), [0, 1, 2, 3])
        self.assertEqual(sorted(set(self.told(Apart, comes, leading, 5, 3).places)), [4, 5])

    def test_all_small_leadings(self):
        for leading, one, other in ways(4):
            if all_places(leading, one) & all_places(leading, other):
                answer = self.told(Met, comes, leading, one, other)
                self.assertGreaterEqual(min(answer.mine, answer.theirs), 0)
                here = step_by_step(leading, one, answer.mine)
                self.assertEqual(here, step_by_step(leading, other, answer.theirs))
            else:
                places = self.told(Apart, comes, leading, one, other).places
                self.assertIn(one, places)
                self.assertNotIn(other, places)
                come_in = {place for place in range(len(leading)) if leading[place] in places}
                self.assertEqual(come_in, set(places))

    def test_many_places(self):
        count = 20000
        self.told(Met, comes, ringed(count), 1, 0)
        self.told(Met, comes, [0] + list(range(count - 1)), 3, count - 1)
        leading = ringed(count, count)
        self.assertEqual(sorted(set(self.told(Apart, comes, leading, 5, count + 5).places)), list(range(count)))

    def test_refusals(self):
        self.refuses_ways(comes)

    def test_told_is_new(self):
        self.own_field("places", comes, [1, 0, 0, 3, 3], 2, 4)
        self.own_field("places", comes, [0, 1], 0, 1)
        self.fields_not_kept(comes, [1, 0, 0, 3, 3], 2, 4)
        self.fields_not_kept(comes, [1, 2, 0, 0], 3, 2)


class Roots(Telling):
    def test_of_no_places(self):
        self.assertEqual(self.told(Root, root, []).leading, [])

    def test_rings_of_odd_length(self):
        for lengths in ((1,), (3,), (5,), (7,), (1, 1), (1, 3), (3, 3, 3), (1, 1, 1, 5, 9)):
            self.rooted(ringed(*lengths))

    def test_even_lengths_even_in_number(self):
        for lengths in ((2, 2), (4, 4), (2, 2, 4, 4), (4, 2, 4, 2), (2, 2, 2, 2), (6, 1, 6, 3), (8, 8, 8, 8)):
            self.rooted(ringed(*lengths))

    def test_even_lengths_odd_in_number(self):
        self.odd(ringed(2), 2, [[0, 1]])
        self.odd(ringed(4), 4, [[0, 1, 2, 3]])
        self.odd(ringed(2, 2, 2), 2, [[0, 1], [2, 3], [4, 5]])
        self.odd(ringed(1, 2, 3), 2, [[1, 2]])
        self.odd(ringed(2, 2, 4), 4, [[4, 5, 6, 7]])
        self.odd(ringed(4, 2, 4), 2, [[4, 5]])
        self.odd([5, 4, 3, 2, 1, 0], 2, [[0, 5], [1, 4], [2, 3]])
        self.odd([2, 3, 1, 0], 4, [[0, 2, 1, 3]])

    def test_two_even_lengths_odd_in_number(self):
        answer = self.told(Odd, root, ringed(2, 4))
        self.assertIn((answer.length, answer.rings), ((2, [[0, 1]]), (4, [[2, 3, 4, 5]])))

    def test_all_small_leadings_that_can_be_taken_back(self):
        for leading in all_back(6):
            lengths = [len(ring) for ring in rings_by_hand(leading)]
            if any(length % 2 == 0 and lengths.count(length) % 2 == 1 for length in lengths):
                answer = self.told(Odd, root, leading)
                alike = [ring for ring in rings_by_hand(leading) if len(ring) == answer.length]
                self.assertEqual((answer.length % 2, len(alike) % 2), (0, 1))
                self.assertEqual(answer.rings, alike)
            else:
                self.rooted(leading)

    def test_a_root_just_where_there_is_one(self):
        for leading in all_back(4):
            found = any([told[end] for end in told] == leading for told in all_leadings(4))
            self.told(Root if found else Odd, root, leading)

    def test_many_places(self):
        self.rooted(ringed(20001))
        self.rooted(ringed(20000, 20000))
        self.rooted(list(range(20000)))
        self.odd(ringed(20000), 20000, [list(range(20000))])

    def test_refuses_no_leading_then_what_cannot_be_taken_back(self):
        for wrong in NO_LEADINGS:
            self.refused(BadLeading, root, wrong)
        for wrong in ([0, 0, 3], [0, 0, True], [1, 1, None], [0, 0, -1]):
            self.refused(BadLeading, root, wrong)
        for leading in all_leadings(4):
            if len(set(leading)) < len(leading):
                self.refused(NotBack, root, leading)

    def test_told_is_new(self):
        for leading in ([0], [0, 1], [1, 2, 0], [1, 0, 3, 2]):
            self.own_field("leading", root, leading)
            self.fields_not_kept(root, leading)
        for leading in ([1, 0], [1, 0, 3, 2, 5, 4]):
            self.own_field("rings", root, leading)
            self.fields_not_kept(root, leading)
        root([]).leading.append(0)
        self.assertEqual(root([]).leading, [])

    def rooted(self, leading):
        told = self.told(Root, root, leading).leading
        self.assertEqual([told[end] for end in told], leading)

    def odd(self, leading, length, rings):
        answer = self.told(Odd, root, leading)
        self.assertEqual((answer.length, answer.rings), (length, rings))

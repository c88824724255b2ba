"""Answers made by hand."""

import copy
import itertools

from leadson.answers import Answer, Apart, Met, Odd, Root, Shut, Steps
from tests.asking import GREAT, HUGE, Asking, all_back, all_leadings, ringed, rings_by_hand, step_by_step

COUNTS = (-HUGE, -GREAT, -3, -2, -1, 0, 1, 2, 3, 4, 5, 6)


def lists_of(numbers, most):
    for length in range(most + 1):
        for chosen in itertools.product(numbers, repeat=length):
            yield list(chosen)


def ways(most):
    """All small leadings with each pair of their places."""
    for leading in all_leadings(most):
        for one, other in itertools.product(range(len(leading)), repeat=2):
            yield leading, one, other


def is_shut(places, leading, one, other):
    return (
        set(places) <= set(range(len(leading)))
        and one in places
        and other not in places
        and {leading[place] for place in places} <= set(places)
    )


def is_apart(places, leading, one, other):
    come_in = {place for place in range(len(leading)) if leading[place] in places}
    return is_shut(places, leading, one, other) and come_in == set(places)


class Showing(Asking):
    def shown(self, told, answer, *asked):
        """Just True or False, with neither the answer nor what is asked of changed."""
        fields = copy.deepcopy(vars(answer))
        handed = copy.deepcopy(asked)
        shows = answer.shows(*asked)
        if shows is not told:
            self.fail((answer.__class__.__name__, fields, asked, shows))
        self.assertEqual(vars(answer), fields)
        self.assertEqual(asked, handed)


class Classes(Showing):
    def test_straight_under_answer(self):
        for kind in (Steps, Shut, Met, Apart, Root, Odd):
            self.assertEqual(kind.__bases__, (Answer,))
        self.assertEqual(Answer.__bases__, (object,))

    def test_names(self):
        names = [kind.__name__ for kind in (Answer, Steps, Shut, Met, Apart, Root, Odd)]
        self.assertEqual(names, ["Answer", "Steps", "Shut", "Met", "Apart", "Root", "Odd"])

    def test_fields(self):
        self.assertEqual(vars(Steps(3)), {"many": 3})
        self.assertEqual(vars(Shut([2, 0, 2])), {"places": [2, 0, 2]})
        self.assertEqual(vars(Met(1, 2)), {"mine": 1, "theirs": 2})
        self.assertEqual(vars(Apart([2, 0, 2])), {"places": [2, 0, 2]})
        self.assertEqual(vars(Root([1, 0])), {"leading": [1, 0]})
        self.assertEqual(vars(Odd(2, [[0, 1]])), {"length": 2, "rings": [[0, 1]]})

    def test_fields_hold_what_does_not_show_as_it_was_handed_in(self):
        self.assertEqual(Steps(-HUGE).many, -HUGE)
        self.assertEqual(Shut([-1, 9]).places, [-1, 9])
        self.assertEqual((Met(-1, GREAT).mine, Met(-1, GREAT).theirs), (-1, GREAT))
        self.assertEqual(Apart([]).places, [])
        self.assertEqual(Root([7, -7]).leading, [7, -7])
        self.assertEqual((Odd(-3, [[]]).length, Odd(-3, [[], [5, 5]]).rings), (-3, [[], [5, 5]]))

    def test_names_of_what_is_handed_in(self):
        self.assertIs(Steps(many=1).shows(leading=[1, 0], one=0, other=1), True)
        self.assertIs(Shut(places=[0]).shows(leading=[0, 1], one=0, other=1), True)
        self.assertIs(Met(mine=1, theirs=0).shows(leading=[1, 1], one=0, other=1), True)
        self.assertIs(Apart(places=[0]).shows(leading=[0, 1], one=0, other=1), True)
        self.assertIs(Root(leading=[0]).shows(leading=[0]), True)
        self.assertIs(Odd(length=2, rings=[[0, 1]]).shows(leading=[1, 0]), True)


class Copies(Showing):
    def test_what_was_handed_in_changed_afterwards(self):
        for kind in (Shut, Apart):
            handed = [0]
            answer = kind(handed)
            handed.append(1)
            handed[0] = 5
            self.assertEqual(answer.places, [0])
            self.shown(True, answer, [0, 1], 0, 1)
        handed = [0]
        answer = Root(handed)
        handed[0] = 5
        self.assertEqual(answer.leading, [0])
        self.shown(True, answer, [0])

    def test_rings_and_those_within_changed_afterwards(self):
        handed = [[0, 1]]
        answer = Odd(2, handed)
        handed[0].append(7)
        handed[0][0] = 9
        self.assertEqual(answer.rings, [[0, 1]])
        handed.append([2, 3])
        self.assertEqual(answer.rings, [[0, 1]])
        self.shown(True, answer, [1, 0])

    def test_a_field_changed_leaves_what_was_handed_in_and_another_answer(self):
        handed = [0]
        shut, apart, root = Shut(handed), Apart(handed), Root(handed)
        shut.places.append(1)
        self.assertEqual((handed, apart.places, root.leading), ([0], [0], [0]))
        apart.places[0] = 3
        root.leading.clear()
        self.assertEqual((handed, shut.places), ([0], [0, 1]))
        rings = [[0, 1]]
        first, second = Odd(2, rings), Odd(2, rings)
        first.rings[0].append(5)
        first.rings.append([6])
        self.assertEqual((rings, second.rings), ([[0, 1]], [[0, 1]]))

    def test_one_list_twice_within(self):
        ring = [0, 1]
        answer = Odd(2, [ring, ring])
        answer.rings[0].append(5)
        self.assertEqual((ring, answer.rings), ([0, 1], [[0, 1, 5], [0, 1]]))

    def test_empty_lists(self):
        handed = []
        answers = [Shut(handed), Apart(handed), Root(handed)]
        handed.append(0)
        self.assertEqual([answers[0].places, answers[1].places, answers[2].leading], [[], [], []])
        rings = [[]]
        answer = Odd(2, rings)
        rings[0].append(0)
        self.assertEqual(answer.rings, [[]])


class ShowsSteps(Showing):
    def test_all_small(self):
        for leading, one, other in ways(3):
            for many in COUNTS:
                there = many >= 0 and step_by_step(leading, one, many) == other
                self.shown(there, Steps(many), leading, one, other)

    def test_some(self):
        leading = [1, 2, 0, 0]
        self.shown(True, Steps(0), leading, 3, 3)
        self.shown(False, Steps(1), leading, 3, 3)
        self.shown(True, Steps(3), leading, 3, 2)
        self.shown(True, Steps(6), leading, 3, 2)
        self.shown(False, Steps(5), leading, 3, 2)

    def test_below_zero(self):
        for many in (-1, -2, -3, -GREAT, -HUGE):
            self.shown(False, Steps(many), [0], 0, 0)
            self.shown(False, Steps(many), [1, 2, 0], 0, 0)

    def test_great_counts(self):
        ring = ringed(7)
        for many in (GREAT, HUGE, HUGE + 3):
            for other in range(7):
                self.shown(many % 7 == other, Steps(many), ring, 0, other)

    def test_a_field_changed(self):
        answer = Steps(1)
        self.shown(True, answer, [1, 2, 0], 0, 1)
        answer.many = 2
        self.shown(False, answer, [1, 2, 0], 0, 1)
        self.shown(True, answer, [1, 2, 0], 0, 2)
        answer.many = -1
        self.shown(False, answer, [1, 2, 0], 0, 2)


class ShowsShut(Showing):
    def test_all_small(self):
        for leading, one, other in ways(3):
            for places in lists_of(range(-1, len(leading) + 1), 3):
                self.shown(is_shut(places, leading, one, other), Shut(places), leading, one, other)

    def test_any_turn_also_twice(self):
        leading = [1, 2, 0, 0]
        for places in ([0, 1, 2], [2, 0, 1], [2, 1, 0, 0, 2]):
            self.shown(True, Shut(places), leading, 1, 3)

    def test_others_may_lead_in(self):
        self.shown(True, Shut([0]), [0, 0], 0, 1)
        self.shown(True, Shut([0, 2]), [0, 1, 2], 0, 1)

    def test_not_as_told(self):
        leading = [1, 2, 0, 0, 4]
        self.shown(False, Shut([0, 1]), leading, 0, 3)
        self.shown(False, Shut([0, 1, 2, 3]), leading, 0, 3)
        self.shown(False, Shut([4]), leading, 0, 3)
        self.shown(False, Shut([]), leading, 0, 3)
        self.shown(False, Shut([0, 1, 2]), leading, 0, 0)

    def test_no_places_among_them(self):
        leading = [0, 1, 2]
        self.shown(True, Shut([0]), leading, 0, 1)
        # Counted from the end -1 would be place 2, which leads to itself, and -3 place 0.
        for wrong in (-1, -3, 3, 4, -4, -GREAT, GREAT, HUGE, -HUGE):
            self.shown(False, Shut([0, wrong]), leading, 0, 1)
            self.shown(False, Shut([0, 2, wrong]), leading, 0, 1)
            self.shown(False, Shut([wrong]), leading, 0, 1)

    def test_a_field_changed(self):
        answer = Shut([0])
        self.shown(True, answer, [0, 0], 0, 1)
        answer.places.append(1)
        self.shown(False, answer, [0, 0], 0, 1)
        answer.places = [0, 0]
        self.shown(True, answer, [0, 0], 0, 1)
        answer.places = []
        self.shown(False, answer, [0, 0], 0, 1)


class ShowsMet(Showing):
    def test_all_small(self):
        for leading, one, other in ways(3):
            for mine, theirs in itertools.product(COUNTS, repeat=2):
                meet = min(mine, theirs) >= 0 and (
                    step_by_step(leading, one, mine) == step_by_step(leading, other, theirs)
                )
                self.shown(meet, Met(mine, theirs), leading, one, other)

    def test_which_is_whose(self):
        self.shown(True, Met(2, 0), [1, 2, 2], 0, 2)
        self.shown(False, Met(0, 2), [1, 2, 2], 0, 2)

    def test_below_zero(self):
        for mine, theirs in ((-1, 0), (0, -1), (-1, -1), (-HUGE, 0), (0, -HUGE)):
            self.shown(False, Met(mine, theirs), [0], 0, 0)

    def test_great_counts(self):
        ring = ringed(7)
        self.shown(True, Met(HUGE, HUGE), ring, 3, 3)
        self.shown(True, Met(HUGE, HUGE + 3), ring, 3, 0)
        self.shown(False, Met(HUGE, HUGE + 4), ring, 3, 0)
        self.shown(True, Met(GREAT, 0), ring, 0, GREAT % 7)

    def test_a_field_changed(self):
        answer = Met(1, 0)
        self.shown(True, answer, [1, 2, 0], 0, 1)
        answer.mine = 2
        self.shown(False, answer, [1, 2, 0], 0, 1)
        answer.theirs = 1
        self.shown(True, answer, [1, 2, 0], 0, 1)
        answer.mine = -1
        self.shown(False, answer, [1, 2, 0], 0, 1)


class ShowsApart(Showing):
    def test_all_small(self):
        for leading, one, other in ways(3):
            for places in lists_of(range(-1, len(leading) + 1), 3):
                self.shown(is_apart(places, leading, one, other), Apart(places), leading, one, other)

    def test_any_turn_also_twice(self):
        leading = [1, 0, 0, 3, 3]
        for places in ([0, 1, 2], [2, 0, 1], [2, 1, 0, 0, 2]):
            self.shown(True, Apart(places), leading, 1, 4)

    def test_several_rings(self):
        leading = [0, 1, 2, 2]
        self.shown(True, Apart([0, 1]), leading, 0, 3)
        self.shown(True, Apart([3, 2]), leading, 3, 0)

    def test_not_as_told(self):
        leading = [1, 0, 0, 3, 3]
        # Place 2 leads in.
        self.shown(False, Apart([0, 1]), leading, 0, 3)
        # Place 2 leads out.
        self.shown(False, Apart([2]), leading, 2, 3)
        self.shown(False, Apart([0, 1, 2, 3, 4]), leading, 0, 3)
        self.shown(False, Apart([3, 4]), leading, 0, 3)
        self.shown(False, Apart([]), leading, 0, 3)
        self.shown(False, Apart([0, 1, 2]), leading, 0, 0)

    def test_no_places_among_them(self):
        leading = [0, 1, 2]
        self.shown(True, Apart([0]), leading, 0, 1)
        for wrong in (-1, -3, 3, 4, -4, -GREAT, GREAT, HUGE, -HUGE):
            self.shown(False, Apart([0, wrong]), leading, 0, 1)
            self.shown(False, Apart([0, 2, wrong]), leading, 0, 1)
            self.shown(False, Apart([wrong]), leading, 0, 1)

    def test_a_field_changed(self):
        answer = Apart([0])
        self.shown(True, answer, [0, 1], 0, 1)
        answer.places[0] = 1
        self.shown(False, answer, [0, 1], 0, 1)
        self.shown(True, answer, [0, 1], 1, 0)


class ShowsRoot(Showing):
    def test_all_small(self):
        for leading in all_back(3):
            count = len(leading)
            for root in lists_of(range(-1, count + 2), count + 1):
                told = (
                    len(root) == count
                    and set(root) <= set(range(count))
                    and [root[root[place]] for place in range(count)] == leading
                )
                self.shown(told, Root(root), leading)

    def test_of_no_places(self):
        self.shown(True, Root([]), [])
        self.shown(False, Root([0]), [])
        self.shown(False, Root([5]), [])
        self.shown(False, Root([]), [0])

    def test_several_roots(self):
        for root in ([0, 1, 2], [1, 0, 2], [2, 1, 0], [0, 2, 1]):
            self.shown(True, Root(root), [0, 1, 2])
        self.shown(False, Root([1, 2, 0]), [0, 1, 2])
        self.shown(True, Root([2, 0, 1]), [1, 2, 0])

    def test_no_leading(self):
        # Counted from the end these would lead as a root does.
        self.shown(False, Root([-1, -2]), [0, 1])
        self.shown(False, Root([-2, -1]), [0, 1])
        for wrong in (-1, -2, 2, 3, GREAT, HUGE, -HUGE):
            self.shown(False, Root([wrong, 1]), [0, 1])
            self.shown(False, Root([0, wrong]), [0, 1])

    def test_of_another_count(self):
        self.shown(False, Root([0]), [0, 1])
        self.shown(False, Root([0, 1, 2]), [0, 1])
        self.shown(False, Root([2, 0, 1, 3]), [1, 2, 0])

    def test_that_cannot_be_taken_back(self):
        self.shown(False, Root([0, 0]), [0, 1])
        self.shown(False, Root([1, 1]), [1, 0])

    def test_a_field_changed(self):
        answer = Root([0, 1])
        self.shown(True, answer, [0, 1])
        answer.leading.reverse()
        self.shown(True, answer, [0, 1])
        answer.leading[0] = 0
        self.shown(False, answer, [0, 1])
        answer.leading = [0]
        self.shown(False, answer, [0, 1])
        self.shown(True, answer, [0])


class ShowsOdd(Showing):
    def test_all_small(self):
        for leading in all_back(5):
            rings = rings_by_hand(leading)
            for length in range(-3, 8):
                alike = [ring for ring in rings if len(ring) == length]
                for told in self.tried(rings, alike):
                    just = length % 2 == 0 and told == alike and len(alike) % 2 == 1
                    self.shown(just, Odd(length, told), leading)

    def tried(self, rings, alike):
        """All of them, and some left out, put in, twice, in another turn, begun elsewhere, or gone against."""
        yield from (alike, rings, [], [[]], alike + [[]], alike[1:], alike[:-1], alike + alike, alike * 3, alike[::-1])
        yield from ([ring] for ring in rings)
        yield from (alike + [ring] for ring in rings)
        yield [ring[1:] + ring[:1] for ring in alike]
        yield [ring[::-1] for ring in alike]
        yield [sorted(ring) for ring in alike]

    def test_one_ring(self):
        self.shown(True, Odd(2, [[0, 1]]), [1, 0])
        self.shown(True, Odd(2, [[0, 2]]), [2, 1, 0])
        self.shown(True, Odd(4, [[0, 2, 1, 3]]), [2, 3, 1, 0])

    def test_three_rings_among_others(self):
        leading = ringed(2, 1, 2, 4, 2)
        self.assertEqual(leading, [1, 0, 2, 4, 3, 6, 7, 8, 5, 10, 9])
        self.shown(True, Odd(2, [[0, 1], [3, 4], [9, 10]]), leading)
        self.shown(True, Odd(4, [[5, 6, 7, 8]]), leading)

    def test_rings_left_out_put_in_or_twice(self):
        leading = ringed(2, 2, 2)
        self.shown(True, Odd(2, [[0, 1], [2, 3], [4, 5]]), leading)
        self.shown(False, Odd(2, [[0, 1]]), leading)
        self.shown(False, Odd(2, [[0, 1], [2, 3]]), leading)
        self.shown(False, Odd(2, [[0, 1], [2, 3], [2, 3]]), leading)
        self.shown(False, Odd(2, [[0, 1], [2, 3], [4, 5], [4, 5], [4, 5]]), leading)
        self.shown(False, Odd(2, [[0, 1], [2, 3], [4, 5], [6, 7], [8, 9]]), leading)
        self.shown(False, Odd(2, [[0, 1], [2, 3], [4, 5]] * 3), leading)

    def test_in_another_turn_or_begun_elsewhere(self):
        leading = ringed(2, 2, 2)
        for told in itertools.permutations([[0, 1], [2, 3], [4, 5]]):
            self.shown(list(told) == sorted(told), Odd(2, list(told)), leading)
        self.shown(False, Odd(2, [[1, 0], [2, 3], [4, 5]]), leading)
        self.shown(False, Odd(2, [[0, 1], [2, 3], [5, 4]]), leading)
        self.shown(False, Odd(4, [[1, 2, 3, 0]]), ringed(4))
        self.shown(False, Odd(4, [[0, 3, 2, 1]]), ringed(4))

    def test_not_rings_of_the_leading(self):
        self.shown(False, Odd(2, [[0, 2]]), [1, 0, 2])
        self.shown(False, Odd(2, [[0, 1]]), [0, 1])
        self.shown(False, Odd(2, [[-2, -1]]), [1, 0])
        self.shown(False, Odd(2, [[0, -1]]), [1, 0])
        self.shown(False, Odd(2, [[2, 3]]), [1, 0])
        self.shown(False, Odd(2, [[0, 0]]), [0, 1])
        self.shown(False, Odd(2, [[0, 1]]), [])

    def test_even_in_number(self):
        self.shown(False, Odd(2, [[0, 1], [2, 3]]), ringed(2, 2))
        self.shown(False, Odd(2, [[0, 1]]), ringed(2, 2))
        self.shown(False, Odd(2, []), ringed(2, 2))
        self.shown(False, Odd(2, []), [0, 1])

    def test_of_an_odd_length(self):
        self.shown(False, Odd(1, [[0]]), [0])
        self.shown(False, Odd(3, [[0, 1, 2]]), ringed(3))
        self.shown(False, Odd(1, [[0]]), [0, 2, 1])
        self.shown(False, Odd(-1, [[0]]), [0])

    def test_of_another_length(self):
        leading = ringed(2, 4)
        self.shown(True, Odd(2, [[0, 1]]), leading)
        self.shown(True, Odd(4, [[2, 3, 4, 5]]), leading)
        self.shown(False, Odd(4, [[0, 1]]), leading)
        self.shown(False, Odd(2, [[2, 3, 4, 5]]), leading)
        self.shown(False, Odd(2, [[0, 1], [2, 3, 4, 5]]), leading)
        self.shown(False, Odd(6, [[0, 1]]), leading)
        for length in (0, -2, -4, GREAT, HUGE, -HUGE):
            self.shown(False, Odd(length, [[0, 1]]), leading)

    def test_of_length_zero_or_below(self):
        for length in (0, -1, -2, -HUGE):
            for rings in ([], [[]], [[], [], []], [[0, 1]]):
                self.shown(False, Odd(length, rings), [1, 0])
                self.shown(False, Odd(length, rings), [])

    def test_no_rings(self):
        for leading in ([], [0], [1, 0], ringed(2, 2), ringed(3)):
            for length in (0, 1, 2, 3, 4):
                self.shown(False, Odd(length, []), leading)
                self.shown(False, Odd(length, [[]]), leading)

    def test_a_field_changed(self):
        answer = Odd(2, [[0, 1]])
        self.shown(True, answer, [1, 0])
        answer.length = 4
        self.shown(False, answer, [1, 0])
        answer.length = 2
        answer.rings[0].reverse()
        self.shown(False, answer, [1, 0])
        answer.rings = [[0, 1]]
        self.shown(True, answer, [1, 0])
        answer.rings.append([2, 3])
        self.shown(False, answer, [1, 0])
        answer.rings.append([4, 5])
        self.shown(True, answer, ringed(2, 2, 2))


class NeverBoth(Showing):
    def test_steps_and_shut_met_and_apart(self):
        for leading, one, other in ways(3):
            # From place to place more steps than there are places bring one nowhere else.
            counts = range(len(leading) + 1)
            subsets = [places for places in lists_of(range(len(leading)), 3) if places == sorted(set(places))]
            steps = any(Steps(many).shows(leading, one, other) for many in counts)
            shut = any(Shut(places).shows(leading, one, other) for places in subsets)
            self.assertNotEqual(steps, shut)
            met = any(Met(mine, theirs).shows(leading, one, other) for mine in counts for theirs in counts)
            apart = any(Apart(places).shows(leading, one, other) for places in subsets)
            self.assertNotEqual(met, apart)

    def test_root_and_odd(self):
        for leading in all_back(4):
            root = any(Root(told).shows(leading) for told in all_leadings(4))
            rings = rings_by_hand(leading)
            odd = any(
                Odd(length, [ring for ring in rings if len(ring) == length]).shows(leading) for length in range(5)
            )
            self.assertNotEqual(root, odd)

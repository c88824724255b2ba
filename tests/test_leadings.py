import itertools

from leadson.errors import BadLeading, BadPlace, BadSteps, NotBack, Unlike
from leadson.leadings import after, behind, comers, times, undone
from tests.asking import GREAT, HUGE, NO_LEADINGS, NO_STEPS, Asking, all_leadings, no_places, step_by_step


class Times(Asking):
    def test_no_places(self):
        for steps in (0, 1, 2, 7, GREAT, HUGE):
            self.assertEqual(times([], steps), [])

    def test_zero_steps_each_place_leads_to_itself(self):
        self.assertEqual(times([0], 0), [0])
        self.assertEqual(times([1, 2, 0], 0), [0, 1, 2])
        self.assertEqual(times([3, 3, 3, 3], 0), [0, 1, 2, 3])

    def test_one_step_is_the_leading(self):
        self.assertEqual(times([1, 2, 0, 0], 1), [1, 2, 0, 0])

    def test_some_steps(self):
        self.assertEqual(times([1, 2, 0, 0], 2), [2, 0, 1, 1])
        self.assertEqual(times([1, 2, 0, 0], 3), [0, 1, 2, 2])
        self.assertEqual(times([1, 2, 3, 4, 4], 3), [3, 4, 4, 4, 4])

    def test_all_small_leadings_step_by_step(self):
        for leading in all_leadings(4):
            for steps in range(15):
                told = times(leading, steps)
                self.assertEqual(told, [step_by_step(leading, place, steps) for place in range(len(leading))])

    def test_great_counts(self):
        # Of four places each is on a ring after 4 steps, and each ring's length divides 12.
        for leading in all_leadings(4):
            for steps in (10 ** 9, GREAT, GREAT + 1, GREAT + 5, HUGE + 3):
                few = 12 + steps % 12
                told = times(leading, steps)
                self.assertEqual(told, [step_by_step(leading, place, few) for place in range(len(leading))])

    def test_many_places_and_great_counts(self):
        count = 20000
        ring = list(range(1, count)) + [0]
        self.assertEqual(times(ring, GREAT)[:3], [(GREAT + place) % count for place in range(3)])
        self.assertEqual(times(ring, 10 ** 50000 + 7)[:2], [(10 ** 50000 + 7) % count, (10 ** 50000 + 8) % count])
        tail = [0] + list(range(count - 1))
        self.assertEqual(times(tail, count - 2), [0] * (count - 1) + [1])
        self.assertEqual(times(tail, count - 1), [0] * count)
        self.assertEqual(times(tail, HUGE), [0] * count)

    def test_refuses_no_leading_then_no_steps(self):
        for wrong in NO_LEADINGS:
            self.refused(BadLeading, times, wrong, 1)
            self.refused(BadLeading, times, wrong, -1)
            self.refused(BadLeading, times, wrong, True)
        for wrong in NO_STEPS:
            self.refused(BadSteps, times, [0], wrong)
            self.refused(BadSteps, times, [1, 2, 0], wrong)
            self.refused(BadSteps, times, [], wrong)

    def test_told_is_new(self):
        for steps in (0, 1, 2, 3, 4, GREAT):
            self.own(times, [1, 2, 0], steps)
            self.own(times, [0, 1, 2], steps)
            self.not_kept(times, [1, 2, 0, 0], steps)
        first = times([], 3)
        first.append(0)
        self.assertEqual(times([], 3), [])

    def test_told_is_new_of_no_places(self):
        leading = []
        told = times(leading, 1)
        told.append(0)
        self.assertEqual(leading, [])


class After(Asking):
    def test_zero_steps(self):
        for place in range(3):
            self.assertEqual(after([1, 1, 0], place, 0), place)

    def test_some_steps(self):
        leading = [1, 2, 3, 1]
        self.assertEqual([after(leading, 0, steps) for steps in range(9)], [0, 1, 2, 3, 1, 2, 3, 1, 2])

    def test_all_small_leadings_step_by_step(self):
        for leading in all_leadings(4):
            for place in range(len(leading)):
                for steps in range(15):
                    self.assertEqual(after(leading, place, steps), step_by_step(leading, place, steps))

    def test_great_counts(self):
        for leading in all_leadings(4):
            for place in range(len(leading)):
                for steps in (10 ** 9, GREAT, GREAT + 1, GREAT + 5, HUGE + 3):
                    told = after(leading, place, steps)
                    self.assertEqual(told, step_by_step(leading, place, 12 + steps % 12))

    def test_many_places_and_great_counts(self):
        count = 20000
        ring = list(range(1, count)) + [0]
        self.assertEqual(after(ring, 3, GREAT), (3 + GREAT) % count)
        self.assertEqual(after(ring, count - 1, 10 ** 50000), (count - 1 + 10 ** 50000) % count)

    def test_a_place_is_a_whole_number(self):
        for steps in (0, 1, GREAT):
            self.assertIs(after([1, 0], 1, steps).__class__, int)

    def test_refuses_no_leading_then_no_place_then_no_steps(self):
        for wrong in NO_LEADINGS:
            self.refused(BadLeading, after, wrong, 0, 1)
            self.refused(BadLeading, after, wrong, -1, 1)
            self.refused(BadLeading, after, wrong, 0, -1)
            self.refused(BadLeading, after, wrong, None, None)
        for leading in ([], [0], [1, 2, 0]):
            for wrong in no_places(leading):
                self.refused(BadPlace, after, leading, wrong, 1)
                self.refused(BadPlace, after, leading, wrong, -1)
                self.refused(BadPlace, after, leading, wrong, True)
        for wrong in NO_STEPS:
            self.refused(BadSteps, after, [0], 0, wrong)
            self.refused(BadSteps, after, [1, 2, 0], 2, wrong)

    def test_of_no_places_none_is_one(self):
        for wrong in (0, 1, -1, GREAT):
            self.refused(BadPlace, after, [], wrong, 0)

    def test_changes_and_keeps_nothing(self):
        leading = [1, 2, 0, 0]
        for steps in (0, 1, 5, GREAT):
            after(leading, 3, steps)
            self.assertEqual(leading, [1, 2, 0, 0])
            self.not_kept(after, leading, 3, steps)


class Comers(Asking):
    def test_some(self):
        self.assertEqual(comers([1, 2, 0, 0], 0, 1), [2, 3])
        self.assertEqual(comers([3, 3, 3, 3], 3, 1), [0, 1, 2, 3])
        self.assertEqual(comers([1, 2, 0, 0], 1, 2), [2, 3])

    def test_none(self):
        self.assertEqual(comers([1, 2, 0, 0], 3, 1), [])
        self.assertEqual(comers([1, 2, 0, 0], 3, GREAT), [])

    def test_zero_steps_the_place_alone(self):
        self.assertEqual(comers([1, 2, 0, 0], 3, 0), [3])
        self.assertEqual(comers([0], 0, 0), [0])

    def test_all_small_leadings_step_by_step(self):
        for leading in all_leadings(4):
            for place in range(len(leading)):
                for steps in (0, 1, 2, 3, 4, 5, 6, 11):
                    there = [start for start in range(len(leading)) if step_by_step(leading, start, steps) == place]
                    self.assertEqual(comers(leading, place, steps), there)

    def test_great_counts(self):
        for leading in all_leadings(4):
            for place in range(len(leading)):
                for steps in (GREAT, GREAT + 1, HUGE + 3):
                    few = 12 + steps % 12
                    there = [start for start in range(len(leading)) if step_by_step(leading, start, few) == place]
                    self.assertEqual(comers(leading, place, steps), there)

    def test_refuses_no_leading_then_no_place_then_no_steps(self):
        for wrong in NO_LEADINGS:
            self.refused(BadLeading, comers, wrong, 0, 1)
            self.refused(BadLeading, comers, wrong, -1, 1)
            self.refused(BadLeading, comers, wrong, 0, -1)
            self.refused(BadLeading, comers, wrong, None, None)
        for leading in ([], [0], [1, 2, 0]):
            for wrong in no_places(leading):
                self.refused(BadPlace, comers, leading, wrong, 1)
                self.refused(BadPlace, comers, leading, wrong, -1)
                self.refused(BadPlace, comers, leading, wrong, True)
        for wrong in NO_STEPS:
            self.refused(BadSteps, comers, [0], 0, wrong)
            self.refused(BadSteps, comers, [1, 2, 0], 2, wrong)

    def test_of_no_places_none_is_one(self):
        for wrong in (0, 1, -1, GREAT):
            self.refused(BadPlace, comers, [], wrong, 0)

    def test_told_is_new(self):
        for steps in (0, 1, 2, GREAT):
            self.own(comers, [0, 0, 0], 0, steps)
            self.not_kept(comers, [1, 2, 0, 0], 1, steps)
        none = comers([0, 0], 1, 1)
        none.append(0)
        self.assertEqual(comers([0, 0], 1, 1), [])


class Behind(Asking):
    def test_by_the_one_then_by_the_other(self):
        self.assertEqual(behind([1, 2, 0], [0, 0, 2]), [0, 2, 0])
        self.assertEqual(behind([0, 0, 2], [1, 2, 0]), [1, 1, 0])

    def test_no_places(self):
        self.assertEqual(behind([], []), [])

    def test_all_small_pairs(self):
        for count in range(4):
            every = [list(ends) for ends in itertools.product(range(count), repeat=count)]
            for one, other in itertools.product(every, every):
                told = behind(one, other)
                self.assertEqual(len(told), count)
                for place in range(count):
                    self.assertEqual(told[place], other[one[place]])

    def test_behind_itself_is_done_twice(self):
        leading = [1, 2, 3, 1]
        self.assertEqual(behind(leading, leading), times(leading, 2))
        self.assertEqual(leading, [1, 2, 3, 1])

    def test_refuses_no_leading_then_other_counts(self):
        for wrong in NO_LEADINGS:
            for right in ([], [0], [1, 0], [1, 2, 0, 0]):
                self.refused(BadLeading, behind, wrong, right)
                self.refused(BadLeading, behind, right, wrong)
            self.refused(BadLeading, behind, wrong, wrong)
        for one, other in (([], [0]), ([0, 1], [0]), ([1, 2, 0], [0, 0, 0, 0]), ([0, 0, 0], [0])):
            self.refused(Unlike, behind, one, other)
            self.refused(Unlike, behind, other, one)

    def test_told_is_new(self):
        self.own(behind, [0, 1, 2], [1, 2, 0])
        self.own(behind, [1, 2, 0], [0, 1, 2])
        self.not_kept(behind, [1, 2, 0], [0, 0, 2])
        one, other = [], []
        behind(one, other).append(0)
        self.assertEqual((one, other, behind(one, other)), ([], [], []))


class Undone(Asking):
    def test_from_there_to_here(self):
        self.assertEqual(undone([1, 2, 0]), [2, 0, 1])
        self.assertEqual(undone([2, 0, 3, 1]), [1, 3, 0, 2])
        self.assertEqual(undone([0]), [0])

    def test_no_places(self):
        self.assertEqual(undone([]), [])

    def test_ahead_and_behind_each_place_leads_to_itself(self):
        for count in range(6):
            for ends in itertools.permutations(range(count)):
                leading = list(ends)
                back = undone(leading)
                self.assertEqual(behind(leading, back), list(range(count)))
                self.assertEqual(behind(back, leading), list(range(count)))

    def test_refuses_what_cannot_be_taken_back(self):
        for leading in all_leadings(4):
            if sorted(leading) == list(range(len(leading))):
                self.assertEqual(undone(undone(leading)), leading)
            else:
                self.refused(NotBack, undone, leading)

    def test_refuses_no_leading_first(self):
        for wrong in NO_LEADINGS:
            self.refused(BadLeading, undone, wrong)
        # Two places lead to one place here, too.
        for wrong in ([0, 0, 3], [0, 0, True], [1, 1, None], [0, 0, -1]):
            self.refused(BadLeading, undone, wrong)

    def test_told_is_new(self):
        self.own(undone, [0, 1, 2])
        self.own(undone, [1, 2, 0])
        self.not_kept(undone, [1, 2, 0])
        leading = []
        undone(leading).append(0)
        self.assertEqual((leading, undone(leading)), ([], []))

from leadson.errors import BadLeading
from leadson.leadings import times
from leadson.rings import rings, settled, waits
from tests.asking import NO_LEADINGS, Asking, all_leadings, on_a_ring, ringed, rings_by_hand, step_by_step


class Rings(Asking):
    def test_no_places(self):
        self.assertEqual(rings([]), [])

    def test_a_ring_of_one_place(self):
        self.assertEqual(rings([0]), [[0]])
        self.assertEqual(rings([1, 1]), [[1]])
        self.assertEqual(rings([2, 2, 2]), [[2]])

    def test_with_tails(self):
        self.assertEqual(rings([1, 2, 0, 0]), [[0, 1, 2]])
        self.assertEqual(rings([3, 3, 1, 2, 0]), [[1, 3, 2]])
        self.assertEqual(rings([4, 0, 1, 5, 3, 4, 7, 6]), [[3, 5, 4], [6, 7]])

    def test_a_ring_goes_as_one_steps(self):
        self.assertEqual(rings([2, 0, 1]), [[0, 2, 1]])
        self.assertEqual(rings([3, 0, 1, 2]), [[0, 3, 2, 1]])

    def test_a_ring_that_is_come_to_elsewhere_begins_with_its_least_place(self):
        self.assertEqual(rings([3, 2, 3, 1]), [[1, 2, 3]])
        self.assertEqual(rings([4, 4, 4, 4, 2]), [[2, 4]])

    def test_rings_rise(self):
        # Come to from place 0 first, the ring of the greater places still stands behind.
        self.assertEqual(rings([4, 2, 1, 4, 3]), [[1, 2], [3, 4]])
        self.assertEqual(rings([5, 4, 2, 3, 1, 0]), [[0, 5], [1, 4], [2], [3]])

    def test_many_alike_rings(self):
        self.assertEqual(rings(list(range(50))), [[place] for place in range(50)])
        self.assertEqual(rings(ringed(*[2] * 30)), [[first, first + 1] for first in range(0, 60, 2)])
        crossed = list(range(30, 60)) + list(range(30))
        self.assertEqual(rings(crossed), [[first, first + 30] for first in range(30)])

    def test_all_small_leadings(self):
        for leading in all_leadings(5):
            self.assertEqual(rings(leading), rings_by_hand(leading))

    def test_each_promise_of_all_small_leadings(self):
        for leading in all_leadings(4):
            told = rings(leading)
            for ring in told:
                self.assertEqual([leading[place] for place in ring], ring[1:] + ring[:1])
                self.assertEqual(len(set(ring)), len(ring))
                self.assertEqual(ring[0], min(ring))
            firsts = [ring[0] for ring in told]
            self.assertEqual(firsts, sorted(set(firsts)))
            on_rings = [place for place in range(len(leading)) if on_a_ring(leading, place)]
            self.assertEqual(sorted(sum(told, [])), on_rings)

    def test_many_places(self):
        count = 20000
        self.assertEqual(rings(ringed(count)), [list(range(count))])
        self.assertEqual(rings([count - 1] + list(range(count - 1))), [[0] + list(range(count - 1, 0, -1))])
        self.assertEqual(rings([0] + list(range(count - 1))), [[0]])
        self.assertEqual(rings(list(range(1, count)) + [count - 1]), [[count - 1]])

    def test_kinds(self):
        for leading in ([], [0], [1, 2, 0, 0], [1, 0, 3, 2]):
            told = rings(leading)
            self.assertIs(told.__class__, list)
            for ring in told:
                self.assertIs(ring.__class__, list)
            self.whole_numbers(told)

    def test_refuses_no_leading(self):
        for wrong in NO_LEADINGS:
            self.refused(BadLeading, rings, wrong)

    def test_told_is_new(self):
        for leading in ([0], [0, 1, 2], [1, 2, 0], [1, 0, 3, 2, 0]):
            self.own(rings, leading)
            self.not_kept(rings, leading)
        rings([]).append([0])
        self.assertEqual(rings([]), [])


class Waits(Asking):
    def test_no_places(self):
        self.assertEqual(waits([]), [])

    def test_on_a_ring_none(self):
        self.assertEqual(waits([0]), [0])
        self.assertEqual(waits([1, 2, 0]), [0, 0, 0])
        self.assertEqual(waits([1, 0, 2]), [0, 0, 0])

    def test_tails(self):
        self.assertEqual(waits([1, 2, 0, 0]), [0, 0, 0, 1])
        self.assertEqual(waits([1, 2, 3, 3]), [3, 2, 1, 0])
        self.assertEqual(waits([0, 0, 1, 2]), [0, 1, 2, 3])
        self.assertEqual(waits([3, 3, 1, 2, 0]), [1, 0, 0, 0, 2])
        # A tail that forks, and one for each of two rings.
        self.assertEqual(waits([0, 0, 1, 1, 6, 4, 6, 5]), [0, 1, 2, 2, 1, 2, 0, 3])

    def test_all_small_leadings(self):
        for leading in all_leadings(5):
            told = waits(leading)
            self.assertEqual(len(told), len(leading))
            for place in range(len(leading)):
                least = 0
                while not on_a_ring(leading, step_by_step(leading, place, least)):
                    least += 1
                self.assertEqual(told[place], least)

    def test_many_places(self):
        count = 20000
        self.assertEqual(waits([0] + list(range(count - 1))), list(range(count)))
        self.assertEqual(waits(list(range(1, count)) + [count - 1]), list(range(count - 1, -1, -1)))
        self.assertEqual(waits([count - 1] * count), [1] * (count - 1) + [0])

    def test_kinds(self):
        for leading in ([], [0], [1, 2, 0, 0]):
            self.assertIs(waits(leading).__class__, list)
            self.whole_numbers(waits(leading))

    def test_refuses_no_leading(self):
        for wrong in NO_LEADINGS:
            self.refused(BadLeading, waits, wrong)

    def test_told_is_new(self):
        for leading in ([0], [0, 0, 1], [0, 1, 2], [1, 2, 0, 0]):
            self.own(waits, leading)
            self.not_kept(waits, leading)
        waits([]).append(0)
        self.assertEqual(waits([]), [])


class Settled(Asking):
    def test_no_places(self):
        self.assertEqual(settled([]), (0, 1))

    def test_a_wait_alone(self):
        self.assertEqual(settled([0]), (0, 1))
        self.assertEqual(settled([0, 1, 2]), (0, 1))
        self.assertEqual(settled([0, 0]), (1, 1))
        self.assertEqual(settled([1, 2, 3, 3]), (3, 1))

    def test_lengths_that_share_no_divisor(self):
        self.assertEqual(settled(ringed(2, 3)), (0, 6))
        self.assertEqual(settled(ringed(2, 3, 5, 7)), (0, 210))
        self.assertEqual(settled(ringed(4, 9)), (0, 36))

    def test_lengths_that_share_divisors(self):
        self.assertEqual(settled(ringed(4, 6)), (0, 12))
        self.assertEqual(settled(ringed(6, 4)), (0, 12))
        self.assertEqual(settled(ringed(6, 10, 15)), (0, 30))
        self.assertEqual(settled(ringed(2, 4, 8)), (0, 8))
        self.assertEqual(settled(ringed(8, 4, 2)), (0, 8))

    def test_many_alike_rings(self):
        self.assertEqual(settled(ringed(3, 3, 3)), (0, 3))
        self.assertEqual(settled(ringed(*[2] * 40)), (0, 2))

    def test_a_wait_and_turns(self):
        self.assertEqual(settled([1, 2, 0, 0]), (1, 3))
        # Tails of 3 and of 1 before rings of 4 and of 6.
        self.assertEqual(settled(ringed(4, 6) + [0, 10, 11, 5]), (3, 12))

    def test_all_small_leadings(self):
        for leading in all_leadings(5):
            wait, turns = settled(leading)
            done = [times(leading, steps) for steps in range(wait + turns + 1)]
            self.assertEqual(done[wait + turns], done[wait])
            self.assertGreaterEqual(wait, 0)
            self.assertGreaterEqual(turns, 1)
            # No two before are alike: neither a lesser wait nor lesser turns would do.
            self.assertEqual(len(set(map(tuple, done))), wait + turns)

    def test_great_turns(self):
        lengths = (2, 3, 5, 7, 11, 13, 17, 19, 23, 29, 31, 37, 41, 43, 47, 53, 59, 61, 67, 71, 73)
        product = 1
        for length in lengths:
            product *= length
        self.assertGreater(product, 2 ** 64)
        self.assertEqual(settled(ringed(*lengths)), (0, product))

    def test_many_places(self):
        count = 20000
        self.assertEqual(settled(ringed(count)), (0, count))
        self.assertEqual(settled([0] + list(range(count - 1))), (count - 1, 1))

    def test_kinds(self):
        for leading in ([], [0], [1, 2, 0, 0]):
            told = settled(leading)
            self.assertIs(told.__class__, tuple)
            self.assertEqual(len(told), 2)
            self.whole_numbers(told)

    def test_refuses_no_leading(self):
        for wrong in NO_LEADINGS:
            self.refused(BadLeading, settled, wrong)

    def test_changes_and_keeps_nothing(self):
        leading = [1, 2, 0, 0]
        settled(leading)
        self.assertEqual(leading, [1, 2, 0, 0])
        self.not_kept(settled, leading)

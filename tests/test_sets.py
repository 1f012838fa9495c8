"""wall_order, best_tour_of and largest_group."""

import unittest
from itertools import permutations

from tests import model
from tests.calls import (LEAST, MOST, add_machine, ask_after, best_tour, best_tour_of, create, cycle_time,
                         in_requests, largest_group, min_cycle_time, remove_machine, set_position, utilization,
                         wall_order)

THREE = [(0, 20, 5), (10, 30, 4), (4, 10, 6)]
SIX = [(50, 0, 1), (10, 0, 2), (40, 0, 3), (20, 0, 4), (30, 0, 5), (0, 0, 6)]
PAIRS = [(0, 0, 1), (10, 0, 1), (0, 0, 1), (10, 0, 1)]


class WallOrder(unittest.TestCase):
    def check(self, machines, expected):
        self.assertEqual(ask_after(machines, wall_order()), [expected])

    def test_no_machine(self):
        self.check([], [0])

    def test_one_machine(self):
        self.check([(99, 0, 1)], [1, 0])
        self.check([(0, 99, 99)], [198, 0])

    def test_two_machines(self):
        self.check([(0, 0, 1), (99, 0, 1)], [200, 0, 1])
        self.check([(99, 0, 1), (0, 0, 1)], [200, 1, 0])

    def test_three_machines(self):
        self.check(THREE, [35, 0, 2, 1])

    def test_six_machines(self):
        self.check(SIX, [121, 5, 1, 3, 4, 2, 0])

    def test_several_machines_at_one_position(self):
        self.check(PAIRS, [24, 0, 2, 1, 3])
        self.check([(10, 0, 1), (0, 0, 1), (10, 0, 1), (0, 0, 1)], [24, 1, 3, 0, 2])
        self.check([(5, 9, 9), (5, 1, 1), (2, 5, 5), (5, 0, 2)], [23, 2, 0, 1, 3])

    def test_all_machines_at_one_position(self):
        for count in range(1, 7):
            with self.subTest(count=count):
                # Neither shorter runs nor shorter services bring a machine forward.
                machines = [(7, 20 - k, 9 - k) for k in range(count)]
                self.check(machines, [max(29, sum(9 - k for k in range(count)))] + list(range(count)))

    def test_it_is_not_the_best_tour(self):
        self.assertEqual(ask_after(THREE, wall_order(), best_tour()), [[35, 0, 2, 1], [35, 0, 1, 2]])

    def test_an_own_time_that_is_longer_than_the_busy_time(self):
        self.check([(10, 88, 2), (3, 5, 5)], [90, 1, 0])

    def test_it_attains_the_minimum_cycle_time(self):
        for machines in permutations(SIX[:4] + [(10, 40, 7)]):
            time, *order = ask_after(machines, wall_order())[0]
            least, times = ask_after(machines, min_cycle_time(), cycle_time(order))
            self.assertEqual([time], least)
            self.assertEqual(time, times[0])
            self.assertEqual(order, model.wall_order(machines))

    def test_it_goes_by_the_machines_as_they_are_now(self):
        answered = ask_after(THREE, set_position(0, 10), wall_order(), remove_machine(1), wall_order(),
                             add_machine(4, 1, 1), wall_order(), create(), wall_order())
        self.assertEqual(answered, [[0], [34, 2, 0, 1], [2], [25, 1, 0], [2], [25, 1, 2, 0], [0], [0]])


class BestTourOf(unittest.TestCase):
    def check(self, machines, mask, expected):
        self.assertEqual(ask_after(machines, best_tour_of(mask)), [expected])

    def test_mask_0(self):
        for machines in ([], THREE[:1], THREE, SIX):
            with self.subTest(machines=machines):
                self.check(machines, 0, [0])

    def test_a_single_bit(self):
        for i, time in enumerate((25, 34, 16)):
            with self.subTest(i=i):
                self.check(THREE, 2 ** i, [time, i])
        for i, time in enumerate((1, 2, 3, 4, 5, 6)):
            with self.subTest(i=i):
                self.check(SIX, 2 ** i, [time, i])

    def test_some_bits(self):
        self.check(THREE, 3, [34, 0, 1])
        self.check(THREE, 5, [25, 0, 2])
        self.check(THREE, 6, [34, 1, 2])
        self.check(SIX, 0b110001, [112, 0, 4, 5])
        self.check(SIX, 0b101010, [52, 1, 3, 5])

    def test_all_bits(self):
        self.check(THREE[:1], 1, [25, 0])
        self.check(THREE, 7, [35, 0, 1, 2])
        self.check(SIX, 63, [121, 0, 1, 5, 3, 4, 2])

    def test_all_bits_are_the_best_tour_of_all_machines(self):
        for count in range(7):
            machines = (PAIRS + [(5, 30, 1), (7, 0, 3)])[:count]
            one, other = ask_after(machines, best_tour_of(2 ** count - 1), best_tour())
            self.assertEqual(one, other)

    def test_beyond_the_range(self):
        for machines in ([], THREE[:1], THREE, SIX[:5], SIX):
            full = 2 ** len(machines)
            for mask in (LEAST, -full, -2, -1, full, full + 1, 2 * full, MOST - 1, MOST):
                with self.subTest(machines=len(machines), mask=mask):
                    self.check(machines, mask, [-22])

    def test_the_last_mask_within_the_range(self):
        for count in range(7):
            with self.subTest(count=count):
                answered = ask_after(SIX[:count], best_tour_of(2 ** count - 1), best_tour_of(2 ** count))
                self.assertEqual(len(answered[0]), count + 1)
                self.assertEqual(answered[1], [-22])

    def test_ties_that_the_lexicographic_order_decides(self):
        self.check(PAIRS, 0b1111, [24, 0, 1, 3, 2])
        self.check(PAIRS + [(0, 0, 1)], 0b11110, [24, 1, 2, 4, 3])
        self.check([(3, 5, 7)] * 6, 0b110110, [28, 1, 2, 4, 5])
        # A machine that runs long makes every tour of the set as good; outside the set it does not.
        machines = PAIRS + [(10, 80, 1)]
        self.check(machines, 0b01111, [24, 0, 1, 3, 2])
        self.check(machines, 0b11111, [81, 0, 1, 2, 3, 4])

    def test_every_mask_of_five_machines(self):
        machines = [(31, 60, 4), (2, 7, 9), (31, 44, 1), (77, 0, 20), (40, 15, 3)]
        answered = in_requests(machines, [best_tour_of(mask) for mask in range(32)])
        for mask in range(32):
            time, tour = model.best_tour_of(machines, [i for i in range(5) if mask // 2 ** i % 2])
            with self.subTest(mask=mask):
                self.assertEqual(answered[mask], [time, *tour])


class LargestGroup(unittest.TestCase):
    def check(self, machines, limit, expected):
        self.assertEqual(ask_after(machines, largest_group(limit)), [expected])

    def test_a_limit_below_0(self):
        for machines in ([], THREE, SIX):
            for limit in (-1, -2, -100, LEAST + 1, LEAST):
                with self.subTest(machines=len(machines), limit=limit):
                    self.check(machines, limit, [-22])

    def test_the_limit_0(self):
        for machines in ([], [(0, 0, 1)], THREE, SIX):
            with self.subTest(machines=len(machines)):
                self.check(machines, 0, [0])

    def test_no_machine(self):
        for limit in (0, 1, 99, MOST):
            with self.subTest(limit=limit):
                self.check([], limit, [0])

    def test_the_greatest_limits(self):
        for machines in (THREE[:1], THREE, SIX, [(0, 99, 99), (99, 99, 99)] * 3):
            for limit in (10000, MOST - 1, MOST):
                with self.subTest(machines=len(machines), limit=limit):
                    self.check(machines, limit, [len(machines)] + list(range(len(machines))))

    def test_limits_in_between(self):
        for limit, expected in ((15, [0]), (16, [1, 2]), (24, [1, 2]), (25, [2, 0, 2]), (33, [2, 0, 2]),
                                (34, [2, 0, 1]), (35, [3, 0, 1, 2]), (36, [3, 0, 1, 2])):
            with self.subTest(limit=limit):
                self.check(THREE, limit, expected)

    def test_one_machine(self):
        self.check([(9, 5, 3)], 7, [0])
        self.check([(9, 5, 3)], 8, [1, 0])
        self.check([(9, 0, 1)], 0, [0])
        self.check([(9, 0, 1)], 1, [1, 0])

    def test_the_greatest_cycle_time(self):
        machines = [(0, 99, 99), (99, 99, 99)] * 3
        self.check(machines, 791, [5, 0, 1, 2, 3, 4])
        self.check(machines, 792, [6, 0, 1, 2, 3, 4, 5])

    def test_ties_are_broken_by_the_smallest_bitmask(self):
        # 0 and 3 have the bitmask 9 and come first as a list, 1 and 2 have the bitmask 6.
        self.check([(0, 0, 1), (50, 0, 1), (50, 0, 1), (0, 0, 1)], 2, [2, 1, 2])
        # 0, 1 and 4 against 1, 2 and 3; 0, 4 and 5 against 1, 2 and 3.
        self.check([(0, 0, 1), (3, 0, 1), (6, 0, 1), (6, 0, 1), (0, 0, 1)], 9, [3, 1, 2, 3])
        self.check([(0, 0, 1), (50, 0, 1), (50, 0, 1), (50, 0, 1), (0, 0, 1), (0, 0, 1)], 3, [3, 1, 2, 3])
        self.check([(7, 0, 5)] * 6, 19, [3, 0, 1, 2])
        # The shorter cycle time does not break a tie.
        self.check([(0, 0, 9), (0, 0, 8), (0, 0, 7)], 9, [1, 0])

    def test_the_first_machine_may_stay_out(self):
        self.check([(0, 99, 1), (0, 0, 1), (0, 0, 1)], 50, [2, 1, 2])
        self.check([(0, 0, 60), (0, 0, 20), (0, 0, 20), (0, 0, 20)], 60, [3, 1, 2, 3])
        self.check([(99, 0, 1), (0, 0, 1), (1, 0, 1), (2, 0, 1)], 198, [3, 1, 2, 3])

    def test_the_members_ascend_whatever_their_positions(self):
        self.check([(9, 0, 1), (5, 0, 1), (7, 0, 1)], 11, [3, 0, 1, 2])
        self.check([(9, 0, 1), (5, 0, 1), (7, 0, 1)], 10, [2, 0, 1])

    def test_every_limit_that_tells_a_difference(self):
        for machines in (THREE, SIX, [(31, 60, 4), (2, 7, 9), (31, 44, 1), (77, 0, 20), (40, 15, 3), (2, 30, 12)]):
            masks = range(2 ** len(machines))
            times = {model.best_tour_of(machines, [i for i in range(6) if mask // 2 ** i % 2])[0] for mask in masks}
            limits = sorted({limit for time in times for limit in (time - 1, time, time + 1) if limit >= 0})
            answered = in_requests(machines, [largest_group(limit) for limit in limits])
            for limit, answer in zip(limits, answered):
                members = model.largest_group(machines, limit)
                with self.subTest(machines=machines, limit=limit):
                    self.assertEqual(answer, [len(members), *members])

    def test_the_group_is_within_the_limit(self):
        machines = [(31, 60, 4), (2, 7, 9), (31, 44, 1), (77, 0, 20), (40, 15, 3), (2, 30, 12)]
        limits = list(range(0, 300, 7))
        groups = in_requests(machines, [largest_group(limit) for limit in limits])
        masks = [model.bitmask(group[1:]) for group in groups]
        times = in_requests(machines, [best_tour_of(mask) for mask in masks])
        self.assertTrue(all(time[0] <= limit for time, limit in zip(times, limits)))

    def test_it_goes_by_the_machines_as_they_are_now(self):
        answered = ask_after(THREE, largest_group(34), remove_machine(1), largest_group(34), set_position(1, 9),
                             largest_group(28), add_machine(9, 0, 1), largest_group(28), create(), largest_group(28),
                             utilization())
        self.assertEqual(answered, [[2, 0, 1], [2], [2, 0, 1], [4], [1, 0], [2], [2, 0, 2], [0], [0], [-6]])


if __name__ == "__main__":
    unittest.main()

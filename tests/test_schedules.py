"""start_times and check_schedule."""

import unittest
from itertools import permutations, product

from tests import model
from tests.calls import (LEAST, MOST, add_machine, ask_after, check_schedule, cycle_time, in_requests,
                         min_cycle_time, set_service_time, start_times)

THREE = [(0, 20, 5), (10, 30, 4), (4, 10, 6)]
SIX = [(50, 0, 1), (10, 0, 2), (40, 0, 3), (20, 0, 4), (30, 0, 5), (0, 0, 6)]
SHORT = [(0, 0, 5), (10, 0, 4), (4, 0, 6)]


class StartTimes(unittest.TestCase):
    def check(self, machines, tour, expected):
        self.assertEqual(ask_after(machines, start_times(tour)), [expected])

    def test_the_empty_tour(self):
        self.check([], [], [0])
        self.check(THREE, [], [0])

    def test_one_machine(self):
        for i in range(3):
            with self.subTest(i=i):
                self.check(THREE, [i], [1, 0])

    def test_the_first_start_is_0_wherever_the_machine_stands(self):
        self.check([(99, 99, 99), (99, 99, 99)], [1, 0], [2, 0, 99])

    def test_a_part_of_the_machines(self):
        self.check(THREE, [0, 2], [2, 0, 9])
        self.check(THREE, [2, 0], [2, 0, 10])
        self.check(THREE, [1, 0], [2, 0, 14])
        self.check(SIX, [5, 0, 2], [3, 0, 56, 67])

    def test_all_machines(self):
        self.check(THREE, [0, 2, 1], [3, 0, 9, 21])
        self.check(THREE, [1, 2, 0], [3, 0, 10, 20])
        self.check(SIX, [0, 1, 2, 3, 4, 5], [6, 0, 41, 73, 96, 110, 145])
        self.check([(7, 9, 99)] * 6, [5, 4, 3, 2, 1, 0], [6, 0, 99, 198, 297, 396, 495])

    def test_the_farthest_walks(self):
        machines = [(0, 99, 99), (99, 99, 99)] * 3
        self.check(machines, [0, 1, 2, 3, 4, 5], [6, 0, 198, 396, 594, 792, 990])

    def test_run_times_do_not_count(self):
        self.check([(0, 0, 1), (5, 0, 2)], [0, 1], [2, 0, 6])
        self.check([(0, 99, 1), (5, 99, 2)], [0, 1], [2, 0, 6])

    def test_every_tour_of_four_machines(self):
        machines = [(31, 60, 4), (2, 7, 9), (31, 44, 1), (77, 0, 20)]
        for length in range(5):
            for tour in permutations(range(4), length):
                with self.subTest(tour=tour):
                    self.check(machines, list(tour), [length] + model.start_times(machines, tour))


class CheckSchedule(unittest.TestCase):
    def check(self, machines, cycle, tour, starts, expected):
        self.assertEqual(ask_after(machines, check_schedule(cycle, tour, starts)), [[expected]])

    def test_the_documents_schedules(self):
        self.check(THREE, 35, [0, 2, 1], [0, 9, 21], 1)
        self.check(THREE, 34, [0, 2, 1], [0, 9, 21], 0)

    def test_the_empty_tour(self):
        for machines in ([], THREE):
            for cycle in (0, 1, 35, 9999):
                with self.subTest(machines=machines, cycle=cycle):
                    self.check(machines, cycle, [], [], 1)

    def test_the_empty_tour_is_refused_with_a_wrong_cycle_or_with_starts(self):
        for machines in ([], THREE):
            for cycle, starts in ((-1, []), (10000, []), (LEAST, []), (MOST, []), (35, [0]), (35, [0, 0]), (-1, [-1])):
                with self.subTest(machines=machines, cycle=cycle, starts=starts):
                    self.check(machines, cycle, [], starts, -22)

    def test_one_machine(self):
        for cycle in (0, 24, 25, 26, 9999):
            for start in (0, 1, 25, 9999):
                with self.subTest(cycle=cycle, start=start):
                    self.check([(50, 20, 5)], cycle, [0], [start], int(cycle >= 25))

    def test_one_machine_that_does_not_run(self):
        # The operator does not walk, so the next service follows at once.
        self.check([(50, 0, 5)], 4, [0], [7], 0)
        self.check([(50, 0, 5)], 5, [0], [7], 1)

    def test_one_machine_among_others(self):
        self.check(THREE, 33, [1], [0], 0)
        self.check(THREE, 34, [1], [0], 1)

    def test_a_part_of_the_machines(self):
        # Machine 1 has the longest own time, 34; without it the cycle may be shorter.
        self.check(THREE, 25, [0, 2], [0, 9], 1)
        self.check(THREE, 24, [0, 2], [0, 9], 0)
        self.check(THREE, 25, [2, 0], [0, 10], 1)

    def test_each_start_that_is_early_by_one(self):
        self.check(SHORT, 35, [0, 2, 1], [0, 9, 21], 1)
        self.check(SHORT, 35, [0, 2, 1], [0, 8, 21], 0)
        self.check(SHORT, 35, [0, 2, 1], [0, 9, 20], 0)
        self.check(SHORT, 35, [0, 2, 1], [1, 9, 21], 0)

    def test_the_way_from_the_last_machine_to_the_first_is_short_by_one(self):
        self.check(SHORT, 34, [0, 2, 1], [0, 9, 21], 0)
        self.check(SHORT, 35, [0, 2, 1], [0, 9, 22], 0)
        self.check(SHORT, 36, [0, 2, 1], [0, 9, 22], 1)
        self.check(SHORT, 36, [0, 2, 1], [1, 10, 22], 1)
        self.check(SHORT, 36, [0, 2, 1], [0, 10, 22], 1)

    def test_every_start_a_little_off(self):
        for shifts in product((-1, 0, 1), repeat=3):
            starts = [5 + shifts[0], 14 + shifts[1], 26 + shifts[2]]
            for cycle in (34, 35, 36, 37):
                with self.subTest(starts=starts, cycle=cycle):
                    expected = model.is_feasible(SHORT, cycle, [0, 2, 1], starts)
                    self.check(SHORT, cycle, [0, 2, 1], starts, expected)

    def test_a_machine_that_needs_longer_than_the_cycle_by_one(self):
        for place in range(3):
            machines = list(SHORT)
            position, _, service_time = machines[place]
            machines[place] = (position, 40 - service_time, service_time)
            with self.subTest(place=place):
                self.check(machines, 39, [0, 2, 1], [0, 9, 21], 0)
                self.check(machines, 40, [0, 2, 1], [0, 9, 21], 1)

    def test_a_machine_outside_the_tour_may_need_longer(self):
        self.check([(0, 5, 5), (3, 99, 99)], 10, [0], [0], 1)

    def test_all_starts_later_by_the_same_time(self):
        for later in (0, 1, 34, 35, 36, 1000, 9978):
            with self.subTest(later=later):
                starts = [later, 9 + later, 21 + later]
                self.check(THREE, 35, [0, 2, 1], starts, 1)
                self.check(THREE, 34, [0, 2, 1], starts, 0)

    def test_longer_waits_in_a_longer_cycle(self):
        self.check(THREE, 9999, [0, 2, 1], [0, 100, 9000], 1)
        self.check(THREE, 9999, [0, 2, 1], [0, 9000, 100], 0)

    def test_starts_that_do_not_ascend(self):
        self.check(THREE, 9999, [0, 2, 1], [21, 9, 0], 0)
        self.check(THREE, 9999, [0, 1], [100, 0], 0)
        self.check(THREE, 9999, [0, 1], [0, 0], 0)

    def test_the_order_of_the_tour_counts(self):
        self.check(THREE, 35, [2, 1, 0], [0, 12, 26], 1)
        self.check(THREE, 35, [0, 1, 2], [0, 9, 21], 0)
        self.check(THREE, 35, [0, 1, 2], [0, 15, 25], 1)
        # Between machines 0 and 1 the operator goes back and forth: 44 a cycle, not 24.
        machines = [(0, 0, 1), (10, 0, 1), (0, 0, 1), (10, 0, 1)]
        self.check(machines, 44, [0, 1, 2, 3], [0, 11, 22, 33], 1)
        self.check(machines, 43, [0, 1, 2, 3], [0, 11, 22, 33], 0)
        self.check(machines, 24, [0, 1, 3, 2], [0, 11, 12, 23], 1)

    def test_starts_longer_or_shorter_than_the_tour(self):
        for tour, starts in (([0], []), ([0], [0, 25]), ([0, 2], [0]), ([0, 2], [0, 9, 21]), ([0, 2, 1], [0, 9]),
                             ([0, 2, 1], [0, 9, 21, 35]), ([0, 2, 1], []), ([0, 2, 1], [0] * 70), ([], [0])):
            with self.subTest(tour=tour, starts=starts):
                self.check(THREE, 9999, tour, starts, -22)

    def test_the_range_of_the_cycle(self):
        for cycle, expected in ((LEAST, -22), (-2, -22), (-1, -22), (0, 0), (1, 0), (9998, 1), (9999, 1),
                                (10000, -22), (10001, -22), (MOST, -22)):
            with self.subTest(cycle=cycle):
                self.check(THREE, cycle, [0, 2, 1], [0, 9, 21], expected)

    def test_the_range_of_each_start(self):
        for place in range(3):
            for start in (LEAST, -2, -1, 10000, 10001, MOST):
                starts = [0, 9, 21]
                starts[place] = start
                with self.subTest(starts=starts):
                    self.check(THREE, 9999, [0, 2, 1], starts, -22)

    def test_both_ends_of_the_range_of_a_start(self):
        self.check(THREE, 34, [1], [0], 1)
        self.check(THREE, 34, [1], [9999], 1)
        self.check(THREE, 9999, [0, 2, 1], [0, 9, 9985], 1)
        self.check(THREE, 9999, [0, 2, 1], [0, 9, 9986], 0)
        self.check(THREE, 9999, [0, 2, 1], [14, 23, 9999], 1)
        self.check(THREE, 9999, [0, 2, 1], [13, 23, 9999], 0)
        self.check(THREE, 0, [0, 2, 1], [0, 9, 0], 0)
        self.check(THREE, 0, [0, 2, 1], [9999, 9999, 9999], 0)

    def test_a_wrong_range_is_refused_where_the_schedule_is_not_feasible_anyway(self):
        self.check(THREE, 10000, [0, 2, 1], [0, 0, 0], -22)
        self.check(THREE, 0, [0, 2, 1], [0, 0, 10000], -22)
        self.check(THREE, 0, [0, 2, 1], [0, 0, -1], -22)

    def test_it_goes_by_the_machines_as_they_are_now(self):
        schedule = check_schedule(35, [0, 2, 1], [0, 9, 21])
        answered = ask_after(THREE, schedule, set_service_time(1, 5), schedule, set_service_time(1, 4), schedule,
                             add_machine(5, 99, 99), schedule)
        self.assertEqual(answered, [[1], [4], [0], [5], [1], [3], [1]])


class Requirements(unittest.TestCase):
    MACHINES = ([(31, 60, 4), (2, 7, 9), (31, 44, 1), (77, 0, 20)], [(0, 0, 1), (1, 0, 1), (0, 0, 1), (1, 0, 1)],
                [(0, 99, 1), (9, 0, 20), (3, 50, 50), (99, 1, 2)])

    def test_start_times_and_cycle_time_make_a_feasible_schedule(self):
        for machines in self.MACHINES:
            tours = [list(tour) for length in range(1, 5) for tour in permutations(range(4), length)]
            times = in_requests(machines, [cycle_time(tour) for tour in tours])
            starts = in_requests(machines, [start_times(tour) for tour in tours])
            told = [(time[0], tour, start[1:]) for time, tour, start in zip(times, tours, starts)]
            exact = in_requests(machines, [check_schedule(*schedule) for schedule in told])
            shorter = in_requests(machines, [check_schedule(time - 1, tour, start) for time, tour, start in told])
            self.assertEqual(exact, [[1]] * len(tours))
            self.assertEqual(shorter, [[0]] * len(tours))

    def test_no_schedule_of_two_machines_has_a_shorter_cycle(self):
        for machines in ([(0, 0, 1), (2, 3, 1)], [(4, 5, 2), (3, 0, 1)], [(1, 0, 2), (1, 1, 2)]):
            least = ask_after(machines, min_cycle_time())[0][0]
            schedules = list(product(range(least + 1), ([0, 1], [1, 0]), product(range(8), repeat=2)))
            feasible = in_requests(machines, [check_schedule(*schedule) for schedule in schedules])
            cycles = {schedule[0] for schedule, answer in zip(schedules, feasible) if answer == [1]}
            with self.subTest(machines=machines):
                self.assertEqual(cycles, {least})

    def test_no_schedule_of_three_machines_has_a_shorter_cycle(self):
        machines = [(0, 0, 1), (1, 0, 1), (0, 2, 1)]
        least = ask_after(machines, min_cycle_time())[0][0]
        schedules = list(product((least - 1, least), permutations(range(3)), product(range(5), repeat=3)))
        feasible = in_requests(machines, [check_schedule(*schedule) for schedule in schedules])
        cycles = {schedule[0] for schedule, answer in zip(schedules, feasible) if answer == [1]}
        self.assertEqual((least, cycles), (5, {5}))


if __name__ == "__main__":
    unittest.main()

"""min_cycle_time, best_tour and cycle_time."""

import unittest
from itertools import permutations, product

from tests import model
from tests.calls import ask_after, best_tour, cycle_time, min_cycle_time

THREE = [(0, 20, 5), (10, 30, 4), (4, 10, 6)]
SIX = [(50, 0, 1), (10, 0, 2), (40, 0, 3), (20, 0, 4), (30, 0, 5), (0, 0, 6)]


def closed_form(machines):
    positions = [machine[0] for machine in machines]
    busy = sum(machine[2] for machine in machines) + 2 * (max(positions) - min(positions))
    return max(busy, max(machine[1] + machine[2] for machine in machines))


class CycleTime(unittest.TestCase):
    def check(self, machines, tour, expected):
        self.assertEqual(ask_after(machines, cycle_time(tour)), [expected])

    def test_the_empty_tour(self):
        self.check([], [], [0, 0, 0])
        self.check(THREE, [], [0, 0, 0])

    def test_one_machine(self):
        self.check([(50, 0, 1)], [0], [1, 1, 0])
        self.check([(50, 99, 99)], [0], [198, 99, 0])
        self.check(THREE, [1], [34, 4, 0])

    def test_a_part_of_the_machines(self):
        self.check(THREE, [0, 2], [25, 19, 8])
        self.check(THREE, [2, 0], [25, 19, 8])
        self.check(THREE, [1, 0], [34, 29, 20])
        self.check(THREE, [2, 1], [34, 22, 12])

    def test_machines_outside_the_tour_do_not_count(self):
        self.check([(0, 99, 99), (5, 1, 2), (99, 99, 99)], [1], [3, 2, 0])

    def test_the_way_back_to_the_first_machine_counts(self):
        self.check([(0, 0, 1), (99, 0, 1)], [0, 1], [200, 200, 198])
        self.check([(3, 0, 1), (9, 0, 1), (5, 0, 1)], [0, 1, 2], [15, 15, 12])

    def test_the_order_of_the_tour_counts(self):
        machines = [(0, 0, 1), (10, 0, 1), (0, 0, 1), (10, 0, 1)]
        self.check(machines, [0, 1, 2, 3], [44, 44, 40])
        self.check(machines, [0, 1, 3, 2], [24, 24, 20])
        self.check(machines, [3, 2, 1, 0], [44, 44, 40])
        self.check(machines, [2, 0, 1, 3], [24, 24, 20])

    def test_six_machines(self):
        self.check(SIX, [0, 1, 2, 3, 4, 5], [201, 201, 180])
        self.check(SIX, [5, 1, 3, 4, 2, 0], [121, 121, 100])

    def test_machines_at_one_place(self):
        self.check([(7, 0, 3), (7, 0, 4)], [1, 0], [7, 7, 0])

    def test_the_greater_of_busy_time_and_own_time(self):
        self.check([(0, 39, 2), (10, 0, 19)], [0, 1], [41, 41, 20])
        self.check([(0, 40, 2), (10, 0, 19)], [0, 1], [42, 41, 20])
        self.check([(0, 38, 2), (10, 0, 19)], [0, 1], [41, 41, 20])
        self.check([(0, 0, 2), (10, 23, 19)], [0, 1], [42, 41, 20])

    def test_the_longest_own_time_counts_wherever_it_stands(self):
        for place in range(4):
            machines = [(5, 10, 2)] * 4
            machines[place] = (5, 99, 3)
            with self.subTest(place=place):
                self.check(machines, [2, 0, 3, 1], [102, 9, 0])

    def test_the_run_time_alone_is_not_the_own_time(self):
        # The longest run time and the longest service time belong to two machines.
        self.check([(0, 90, 1), (0, 60, 40)], [0, 1], [100, 41, 0])

    def test_every_tour_of_four_machines(self):
        machines = [(31, 60, 4), (2, 7, 9), (31, 44, 1), (77, 0, 20)]
        for length in range(5):
            for tour in permutations(range(4), length):
                with self.subTest(tour=tour):
                    self.check(machines, list(tour), [model.cycle_time(machines, tour),
                                                      model.busy_time(machines, tour),
                                                      model.walking_time(machines, tour)])


class MinimumAndBestTour(unittest.TestCase):
    def check(self, machines, time, tour):
        self.assertEqual(ask_after(machines, min_cycle_time(), best_tour()), [[time], [time] + tour])

    def test_no_machine(self):
        self.check([], 0, [])

    def test_one_machine(self):
        self.check([(99, 0, 1)], 1, [0])
        self.check([(99, 99, 99)], 198, [0])

    def test_two_machines(self):
        self.check([(0, 0, 1), (99, 0, 1)], 200, [0, 1])
        self.check([(99, 0, 1), (0, 0, 1)], 200, [0, 1])

    def test_three_machines(self):
        self.check(THREE, 35, [0, 1, 2])

    def test_six_machines(self):
        self.check(SIX, 121, [0, 1, 5, 3, 4, 2])
        self.check([(99, 99, 99)] * 6, 594, [0, 1, 2, 3, 4, 5])

    def test_the_smallest_of_several_best_tours_at_one_place(self):
        for count in range(7):
            with self.subTest(count=count):
                self.check([(3, 5, 7)] * count, max(7 * count, 12 if count else 0), list(range(count)))

    def test_the_smallest_of_several_best_tours_along_the_wall(self):
        # 0, 1, 3, 2 and 0, 2, 1, 3 and others walk 20; 0, 1, 2, 3 walks 40.
        self.check([(0, 0, 1), (10, 0, 1), (0, 0, 1), (10, 0, 1)], 24, [0, 1, 3, 2])

    def test_a_machine_that_runs_long_makes_longer_walks_as_good(self):
        machines = [(0, 0, 1), (10, 42, 1), (0, 0, 1), (10, 0, 1)]
        self.check(machines, 43, [0, 1, 3, 2])
        machines[1] = (10, 43, 1)
        self.check(machines, 44, [0, 1, 2, 3])
        machines[1] = (10, 44, 1)
        self.check(machines, 45, [0, 1, 2, 3])

    def test_a_walk_between_the_shortest_and_the_first(self):
        # 0 to 5 in order walks 24, the shortest walk is 12; a cycle of 22 leaves room for a walk of 16.
        machines = [(0, 0, 1), (6, 0, 1), (1, 0, 1), (5, 0, 1), (2, 0, 1), (4, 0, 1)]
        self.check(machines, 18, [0, 1, 3, 5, 4, 2])
        machines[2] = (1, 21, 1)
        self.check(machines, 22, [0, 1, 3, 4, 5, 2])

    def test_which_of_the_two_values_is_the_greater(self):
        # Service times and twice the stretch make 30; what the first machine needs by itself is put round it.
        for run_time, time in ((24, 30), (25, 30), (26, 31)):
            with self.subTest(run_time=run_time):
                self.check([(2, run_time, 5), (12, 0, 5)], time, [0, 1])

    def test_the_closed_form_and_every_permutation(self):
        numbers = [(position, run_time, service_time)
                   for position in (0, 7, 99) for run_time in (0, 99) for service_time in (1, 40)]
        for machines in product(numbers, repeat=2):
            machines = list(machines) + [(3, 50, 2), (60, 20, 8)]
            time, tour = model.best_tour(machines)
            self.assertEqual(time, closed_form(machines))
            self.check(machines, time, list(tour))

    def test_the_best_tour_is_a_permutation_with_the_minimum_as_its_cycle_time(self):
        for machines in permutations(SIX):
            machines = list(machines)[:5] + [(25, 60, 1)]
            time, *tour = ask_after(machines, best_tour())[0]
            self.assertEqual(sorted(tour), list(range(6)))
            self.assertEqual(ask_after(machines, min_cycle_time(), cycle_time(tour))[0], [time])
            self.assertEqual(ask_after(machines, cycle_time(tour))[0][0], time)


if __name__ == "__main__":
    unittest.main()

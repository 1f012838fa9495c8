"""idle_time, utilization, min_cycle_time_if and list_machines."""

import unittest
from fractions import Fraction
from itertools import product

from tests import model
from tests.calls import (LEAST, MOST, add_machine, ask_after, best_tour, create, idle_time, list_machines, listed,
                         min_cycle_time, min_cycle_time_if, probed, probes, remove_machine, set_position,
                         set_run_time, set_service_time, utilization)

THREE = [(0, 20, 5), (10, 30, 4), (4, 10, 6)]
SIX = [(1, 11, 21), (2, 12, 22), (3, 13, 23), (4, 14, 24), (5, 15, 25), (6, 16, 26)]
EXTREME = [(0, 0, 1), (99, 99, 99), (0, 99, 1), (99, 0, 99), (50, 0, 1), (0, 0, 1)]
NO_MACHINE = (LEAST, LEAST + 1, -7, -6, -3, -2, -1)


class IdleTime(unittest.TestCase):
    def check(self, machines, expected):
        answered = ask_after(machines, *[idle_time(i) for i in range(len(machines))])
        self.assertEqual(answered, [[time] for time in expected])

    def test_each_of_three(self):
        self.check(THREE, [10, 1, 19])

    def test_each_of_six(self):
        self.check(SIX, [119, 117, 115, 113, 111, 109])

    def test_one_machine_is_never_idle(self):
        self.check([(99, 99, 99)], [0])
        self.check([(0, 0, 1)], [0])

    def test_the_machine_with_the_longest_own_time_may_never_be_idle(self):
        self.check([(0, 36, 5), (10, 0, 15)], [0, 26])
        self.check([(0, 34, 5), (10, 0, 15)], [1, 25])
        self.check([(0, 0, 5), (3, 60, 5), (3, 60, 5)], [60, 0, 0])

    def test_the_operators_walk_makes_machines_idle(self):
        self.check([(0, 0, 1), (99, 0, 1)], [199, 199])

    def test_no_such_machine(self):
        for machines in ([], THREE[:1], THREE, SIX):
            for i in NO_MACHINE + (len(machines), len(machines) + 1, 7, MOST):
                with self.subTest(machines=len(machines), i=i):
                    self.assertEqual(ask_after(machines, idle_time(i)), [[-2]])

    def test_it_goes_by_the_machines_as_they_are_now(self):
        answered = ask_after(THREE, set_run_time(0, 90), idle_time(0), idle_time(1), remove_machine(0), idle_time(0),
                             idle_time(1), idle_time(2), create(), idle_time(0))
        self.assertEqual(answered, [[20], [0], [61], [2], [0], [18], [-2], [0], [-2]])


class Utilization(unittest.TestCase):
    def check(self, machines, numerator, denominator):
        self.assertEqual(ask_after(machines, utilization()), [[0, numerator, denominator]])

    def test_no_machines(self):
        self.assertEqual(ask_after([], utilization()), [[-6]])
        self.assertEqual(ask_after(THREE[:1], remove_machine(0), utilization()), [[0], [-6]])

    def test_the_fraction_1(self):
        self.check(THREE, 1, 1)
        self.check([(50, 0, 1)], 1, 1)
        self.check([(50, 0, 99)], 1, 1)
        self.check(SIX, 1, 1)

    def test_a_fraction_in_lowest_terms_as_it_is(self):
        self.check([(0, 99, 1)], 1, 100)
        self.check([(0, 5, 2)], 2, 7)
        self.check([(0, 40, 2), (10, 0, 19)], 41, 42)

    def test_a_fraction_that_has_to_be_brought_to_lowest_terms(self):
        self.check([(0, 98, 2)], 1, 50)
        self.check([(0, 99, 99)], 1, 2)
        self.check([(0, 18, 42)], 7, 10)
        self.check([(0, 63, 27)], 3, 10)
        self.check([(0, 90, 10), (20, 10, 10)], 3, 5)
        self.check([(7, 80, 16), (7, 0, 20)], 3, 8)

    def test_every_machine_alone(self):
        for run_time, service_time in product((0, 1, 2, 30, 60, 98, 99), (1, 2, 3, 10, 36, 60, 98, 99)):
            part = Fraction(service_time, run_time + service_time)
            with self.subTest(run_time=run_time, service_time=service_time):
                self.check([(5, run_time, service_time)], part.numerator, part.denominator)

    def test_the_busy_time_is_that_of_the_wall_order(self):
        # The best tour goes back and forth, as the second machine runs long: its busy time is 44, not 24.
        machines = [(0, 0, 1), (10, 44, 1), (0, 0, 1), (10, 0, 1)]
        self.assertEqual(ask_after(machines, best_tour()), [[45, 0, 1, 2, 3]])
        self.check(machines, 8, 15)

    def test_it_goes_by_the_machines_as_they_are_now(self):
        answered = ask_after(THREE, utilization(), set_run_time(0, 65), utilization(), remove_machine(1),
                             utilization(), create(), utilization())
        self.assertEqual(answered, [[0, 1, 1], [20], [0, 1, 2], [2], [0, 19, 70], [0], [-6]])


class MinCycleTimeIf(unittest.TestCase):
    def test_the_same_as_min_cycle_time_after_set_run_time(self):
        for machines in (THREE[:1], THREE, SIX, EXTREME):
            for i in range(len(machines)):
                for run_time in (0, 1, 30, 31, 50, 98, 99):
                    with self.subTest(machines=machines, i=i, run_time=run_time):
                        told, _, then = ask_after(machines, min_cycle_time_if(i, run_time), set_run_time(i, run_time),
                                                  min_cycle_time())
                        self.assertEqual(told, then)

    def test_times_that_can_be_reckoned_by_hand(self):
        answered = ask_after(THREE, min_cycle_time_if(0, 30), min_cycle_time_if(0, 31), min_cycle_time_if(1, 99),
                             min_cycle_time_if(1, 0), min_cycle_time_if(2, 29), min_cycle_time_if(2, 30))
        self.assertEqual(answered, [[35], [36], [103], [35], [35], [36]])

    def test_a_shorter_run_of_the_machine_that_takes_longest(self):
        answered = ask_after([(0, 90, 10), (1, 50, 10)], min_cycle_time(), min_cycle_time_if(0, 20),
                             min_cycle_time_if(0, 60), min_cycle_time_if(1, 99), min_cycle_time())
        self.assertEqual(answered, [[100], [60], [70], [109], [100]])

    def test_nothing_is_changed(self):
        for i, run_time in product(range(3), (0, 50, 99)):
            with self.subTest(i=i, run_time=run_time):
                call = min_cycle_time_if(i, run_time)
                answered = ask_after(THREE, call, list_machines(), min_cycle_time(), *probes())
                self.assertEqual(answered[1:], [listed(THREE), [35]] + probed(THREE))

    def test_no_such_machine(self):
        for machines in ([], THREE[:1], THREE, SIX):
            for i in NO_MACHINE + (len(machines), len(machines) + 1, 7, MOST):
                with self.subTest(machines=len(machines), i=i):
                    answered = ask_after(machines, min_cycle_time_if(i, 0), min_cycle_time_if(i, 99), *probes())
                    self.assertEqual(answered, [[-2], [-2]] + probed(machines))

    def test_a_run_time_out_of_range(self):
        for run_time in (LEAST, LEAST + 1, -2, -1, 100, 101, 1000, MOST - 1, MOST):
            with self.subTest(run_time=run_time):
                answered = ask_after(THREE, *[min_cycle_time_if(i, run_time) for i in range(3)], *probes())
                self.assertEqual(answered, [[-22]] * 3 + probed(THREE))

    def test_no_such_machine_goes_ahead_of_a_run_time_out_of_range(self):
        for i, run_time in product((LEAST, -3, -1, 3, 6, MOST), (LEAST, -1, 100, MOST)):
            with self.subTest(i=i, run_time=run_time):
                self.assertEqual(ask_after(THREE, min_cycle_time_if(i, run_time)), [[-2]])


class ListMachines(unittest.TestCase):
    def test_no_machine(self):
        self.assertEqual(ask_after([], list_machines()), [[0]])

    def test_one_machine(self):
        self.assertEqual(ask_after([(7, 8, 9)], list_machines()), [[1, 7, 8, 9]])

    def test_three_machines(self):
        self.assertEqual(ask_after(THREE, list_machines()), [[3, 0, 20, 5, 10, 30, 4, 4, 10, 6]])

    def test_six_machines(self):
        self.assertEqual(ask_after(SIX, list_machines()),
                         [[6, 1, 11, 21, 2, 12, 22, 3, 13, 23, 4, 14, 24, 5, 15, 25, 6, 16, 26]])
        self.assertEqual(ask_after(EXTREME, list_machines()), [listed(EXTREME)])

    def test_machines_that_are_alike(self):
        self.assertEqual(ask_after([(5, 5, 5)] * 3, list_machines()), [[3] + [5] * 9])

    def test_what_has_changed(self):
        answered = ask_after(THREE, set_position(0, 99), list_machines(), set_run_time(1, 0), set_service_time(2, 99),
                             list_machines(), remove_machine(1), list_machines(), add_machine(1, 2, 3),
                             list_machines(), create(), list_machines())
        self.assertEqual(answered[1], listed([(99, 20, 5), (10, 30, 4), (4, 10, 6)]))
        self.assertEqual(answered[4], listed([(99, 20, 5), (10, 0, 4), (4, 10, 99)]))
        self.assertEqual(answered[6], listed([(99, 20, 5), (4, 10, 99)]))
        self.assertEqual(answered[8], listed([(99, 20, 5), (4, 10, 99), (1, 2, 3)]))
        self.assertEqual(answered[10], [0])

    def test_each_of_up_to_six(self):
        for count in range(7):
            with self.subTest(count=count):
                self.assertEqual(ask_after(EXTREME[:count], list_machines()), [listed(EXTREME[:count])])


class Together(unittest.TestCase):
    def test_idle_times_and_the_minimum_cycle_time(self):
        for machines in (THREE, SIX, EXTREME):
            least = model.best_tour(machines)[0]
            answered = ask_after(machines, *[idle_time(i) for i in range(len(machines))])
            self.assertEqual(answered, [[least - machine[1] - machine[2]] for machine in machines])
            self.assertTrue(all(answer[0] >= 0 for answer in answered))


if __name__ == "__main__":
    unittest.main()

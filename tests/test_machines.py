"""add_machine, remove_machine and the three calls that change a machine."""

import unittest

from tests.calls import (LEAST, MOST, add_machine, ask_after, best_tour, best_tour_of, check_schedule, create,
                         cycle_time, idle_time, largest_group, list_machines, min_cycle_time, min_cycle_time_if,
                         probed, probes, remove_machine, set_position, set_run_time, set_service_time, start_times,
                         utilization, wall_order)

THREE = [(0, 20, 5), (10, 30, 4), (4, 10, 6)]
SIX = [(1, 11, 21), (2, 12, 22), (3, 13, 23), (4, 14, 24), (5, 15, 25), (6, 16, 26)]

# Each call that changes a number of a machine: which number it is, its least and its most.
CHANGES = ((set_position, 0, 0, 99), (set_run_time, 1, 0, 99), (set_service_time, 2, 1, 99))


def beyond(least, most):
    return (LEAST, LEAST + 1, least - 1, most + 1, 100, 1000, MOST - 1, MOST)


class AddMachine(unittest.TestCase):
    def test_indices_count_up(self):
        answered = ask_after([], *[add_machine(*machine) for machine in SIX])
        self.assertEqual(answered, [[0], [1], [2], [3], [4], [5]])

    def test_all_three_numbers_are_kept(self):
        self.assertEqual(ask_after(SIX, *probes()), probed(SIX))

    def test_both_ends_of_each_range(self):
        for which, (least, most) in enumerate(((0, 99), (0, 99), (1, 99))):
            for number in (least, least + 1, most - 1, most):
                machine = [50, 50, 50]
                machine[which] = number
                with self.subTest(machine=machine):
                    self.assertEqual(ask_after([], add_machine(*machine), *probes()), [[0]] + probed([machine]))

    def test_beyond_each_range(self):
        for which, (least, most) in enumerate(((0, 99), (0, 99), (1, 99))):
            for number in beyond(least, most):
                machine = [50, 50, 50]
                machine[which] = number
                with self.subTest(machine=machine):
                    answered = ask_after(THREE, add_machine(*machine), *probes())
                    self.assertEqual(answered, [[-22]] + probed(THREE))

    def test_a_service_time_of_0_is_refused_and_a_run_time_of_0_is_not(self):
        self.assertEqual(ask_after([], add_machine(0, 0, 0), add_machine(0, 0, 1)), [[-22], [0]])

    def test_all_numbers_out_of_range(self):
        self.assertEqual(ask_after([], add_machine(LEAST, LEAST, LEAST), add_machine(MOST, MOST, MOST)),
                         [[-22], [-22]])

    def test_the_seventh_machine(self):
        answered = ask_after(SIX, add_machine(0, 0, 1), add_machine(99, 99, 99), *probes())
        self.assertEqual(answered, [[-28], [-28]] + probed(SIX))

    def test_a_parameter_out_of_range_goes_ahead_of_too_many_machines(self):
        wrong = [add_machine(-1, 0, 1), add_machine(100, 0, 1), add_machine(0, -1, 1), add_machine(0, 100, 1),
                 add_machine(0, 0, 0), add_machine(0, 0, 100), add_machine(LEAST, 0, 1), add_machine(0, 0, MOST)]
        self.assertEqual(ask_after(SIX, *wrong, *probes()), [[-22]] * 8 + probed(SIX))

    def test_with_five_machines_there_is_room_for_one(self):
        self.assertEqual(ask_after(SIX[:5], add_machine(6, 16, 26), add_machine(6, 16, 26), *probes()),
                         [[5], [-28]] + probed(SIX))

    def test_a_removed_machine_makes_room(self):
        answered = ask_after(SIX, remove_machine(2), add_machine(9, 9, 9), add_machine(9, 9, 9), *probes())
        self.assertEqual(answered, [[5], [5], [-28]] + probed(SIX[:2] + SIX[3:] + [(9, 9, 9)]))

    def test_machines_that_are_alike(self):
        self.assertEqual(ask_after([(7, 7, 7)] * 3, set_run_time(1, 8), *probes()),
                         [[7]] + probed([(7, 7, 7), (7, 8, 7), (7, 7, 7)]))


class RemoveMachine(unittest.TestCase):
    def test_each_machine_of_six(self):
        for i in range(6):
            with self.subTest(i=i):
                self.assertEqual(ask_after(SIX, remove_machine(i), *probes()), [[5]] + probed(SIX[:i] + SIX[i + 1:]))

    def test_first_middle_and_last_of_three(self):
        for i in range(3):
            with self.subTest(i=i):
                answered = ask_after(THREE, remove_machine(i), *probes())
                self.assertEqual(answered, [[2]] + probed(THREE[:i] + THREE[i + 1:]))

    def test_down_to_none(self):
        answered = ask_after(THREE, remove_machine(0), remove_machine(0), remove_machine(0), remove_machine(0),
                             min_cycle_time(), add_machine(1, 2, 3))
        self.assertEqual(answered, [[2], [1], [0], [-2], [0], [0]])

    def test_the_last_one_again_and_again(self):
        answered = ask_after(THREE, remove_machine(2), remove_machine(2), remove_machine(1), remove_machine(1),
                             remove_machine(0))
        self.assertEqual(answered, [[2], [-2], [1], [-2], [0]])

    def test_no_such_machine(self):
        for machines in ([], THREE[:1], THREE, SIX):
            for i in (LEAST, -7, -6, -3, -2, -1, len(machines), len(machines) + 1, 7, MOST):
                with self.subTest(machines=len(machines), i=i):
                    answered = ask_after(machines, remove_machine(i), *probes())
                    self.assertEqual(answered, [[-2]] + probed(machines))

    def test_times_go_by_the_new_indices(self):
        answered = ask_after(THREE, remove_machine(0), cycle_time([0, 1]), cycle_time([2]), best_tour())
        self.assertEqual(answered, [[2], [34, 22, 12], [-22], [34, 0, 1]])


class Changes(unittest.TestCase):
    def test_each_machine_and_only_that_one(self):
        for change, which, _, _ in CHANGES:
            for i in range(6):
                machines = [list(machine) for machine in SIX]
                machines[i][which] = 77
                with self.subTest(change=change.__name__, i=i):
                    answered = ask_after(SIX, change(i, 77), *probes())
                    self.assertEqual(answered, [[SIX[i][which]]] + probed(machines))

    def test_the_previous_number_is_answered_each_time(self):
        for change, which, least, most in CHANGES:
            with self.subTest(change=change.__name__):
                answered = ask_after(THREE, change(1, most), change(1, least), change(1, least), change(1, 42),
                                     change(1, 43))
                self.assertEqual(answered, [[THREE[1][which]], [most], [least], [least], [42]])

    def test_both_ends_of_each_range(self):
        for change, which, least, most in CHANGES:
            for number in (least, least + 1, most - 1, most):
                machines = [list(machine) for machine in THREE]
                machines[2][which] = number
                with self.subTest(change=change.__name__, number=number):
                    answered = ask_after(THREE, change(2, number), *probes())
                    self.assertEqual(answered, [[THREE[2][which]]] + probed(machines))

    def test_beyond_each_range(self):
        for change, _, least, most in CHANGES:
            for number in beyond(least, most):
                with self.subTest(change=change.__name__, number=number):
                    self.assertEqual(ask_after(THREE, change(2, number), *probes()), [[-22]] + probed(THREE))

    def test_no_such_machine(self):
        for change, _, least, most in CHANGES:
            for machines in ([], THREE[:1], THREE, SIX):
                for i in (LEAST, -7, -6, -3, -2, -1, len(machines), len(machines) + 1, 7, MOST):
                    with self.subTest(change=change.__name__, machines=len(machines), i=i):
                        answered = ask_after(machines, change(i, least), change(i, most), *probes())
                        self.assertEqual(answered, [[-2], [-2]] + probed(machines))

    def test_no_such_machine_goes_ahead_of_a_number_out_of_range(self):
        for change, _, least, most in CHANGES:
            for i in (LEAST, -3, -1, 3, 6, MOST):
                for number in beyond(least, most):
                    with self.subTest(change=change.__name__, i=i, number=number):
                        self.assertEqual(ask_after(THREE, change(i, number), *probes()), [[-2]] + probed(THREE))

    def test_times_go_by_the_new_numbers(self):
        answered = ask_after(THREE, set_position(1, 20), cycle_time([0, 1, 2]), set_service_time(0, 99),
                             cycle_time([0, 1, 2]), set_run_time(0, 99), cycle_time([0, 1, 2]), min_cycle_time())
        self.assertEqual(answered, [[10], [55, 55, 40], [5], [149, 149, 40], [20], [198, 149, 40], [198]])


class Unchanged(unittest.TestCase):
    # Every operation from number 6 on, with what it may be handed in and with what it refuses.
    QUERIES = [min_cycle_time(), best_tour(), cycle_time([]), cycle_time([2]), cycle_time([2, 0, 1]),
               cycle_time([1, 1]), cycle_time([3]), cycle_time([-1]), wall_order(), start_times([]),
               start_times([1, 0]), start_times([1, 1]), start_times([-1]), idle_time(0), idle_time(2), idle_time(3),
               idle_time(-1), utilization(), largest_group(-1), largest_group(0), largest_group(34),
               largest_group(MOST), best_tour_of(0), best_tour_of(6), best_tour_of(7), best_tour_of(8),
               best_tour_of(-1), check_schedule(35, [0, 2, 1], [0, 9, 21]), check_schedule(34, [0, 2, 1], [0, 9, 21]),
               check_schedule(35, [0, 2, 1], [0, 9]), check_schedule(35, [0, 0], [0, 9]),
               check_schedule(10000, [], []), min_cycle_time_if(0, 99), min_cycle_time_if(1, 0),
               min_cycle_time_if(3, 0), min_cycle_time_if(0, 100), list_machines()]
    WRONG = [add_machine(0, 0, 0), remove_machine(3), set_position(0, 100), set_run_time(-1, 0),
             set_service_time(1, 0), set_run_time(2, 100), remove_machine(-1)]

    def test_queries_change_nothing(self):
        for query in self.QUERIES:
            with self.subTest(query=query):
                self.assertEqual(ask_after(THREE, query, *probes())[1:], probed(THREE))

    def test_all_queries_together_change_nothing(self):
        answered = ask_after(THREE, *self.QUERIES, *probes())
        self.assertEqual(answered[len(self.QUERIES):], probed(THREE))

    def test_queries_of_no_machines_and_of_six_change_nothing(self):
        for machines in ([], SIX):
            for query in self.QUERIES:
                with self.subTest(machines=len(machines), query=query):
                    self.assertEqual(ask_after(machines, query, *probes())[1:], probed(machines))

    def test_each_query_answers_the_same_behind_each(self):
        alone = [ask_after(THREE, query)[0] for query in self.QUERIES]
        for first in self.QUERIES:
            with self.subTest(first=first):
                self.assertEqual(ask_after(THREE, first, *self.QUERIES)[1:], alone)

    def test_errors_change_no_answer_of_the_queries(self):
        for wrong in self.WRONG:
            with self.subTest(wrong=wrong):
                told, *behind = ask_after(THREE, wrong, *self.QUERIES)
                self.assertLess(told[0], 0)
                self.assertEqual(behind, ask_after(THREE, *self.QUERIES))

    def test_create_behind_queries(self):
        self.assertEqual(ask_after(THREE, best_tour(), create(), best_tour()), [[35, 0, 1, 2], [0], [0]])


if __name__ == "__main__":
    unittest.main()

"""How calls are handed in and answers given back; create, and what goes ahead of it."""

import unittest

from tendwall.shop import answers
from tests.calls import (LEAST, MOST, add_machine, ask, ask_after, best_tour, best_tour_of, built, check_schedule,
                         create, cycle_time, idle_time, joined, largest_group, list_machines, min_cycle_time,
                         min_cycle_time_if, probed, probes, remove_machine, set_position, set_run_time,
                         set_service_time, start_times, utilization, wall_order)

MACHINES = [(0, 20, 5), (10, 30, 4), (4, 10, 6)]

# Every call but create, with parameters that are right for MACHINES, and what it is answered right behind them.
EACH = (
    (add_machine(1, 2, 3), [3]),
    (remove_machine(0), [2]),
    (set_position(0, 1), [0]),
    (set_run_time(0, 1), [20]),
    (set_service_time(0, 1), [5]),
    (min_cycle_time(), [35]),
    (best_tour(), [35, 0, 1, 2]),
    (cycle_time([0, 2]), [25, 19, 8]),
    (wall_order(), [35, 0, 2, 1]),
    (start_times([1, 2, 0]), [3, 0, 10, 20]),
    (idle_time(2), [19]),
    (utilization(), [0, 1, 1]),
    (largest_group(25), [2, 0, 2]),
    (best_tour_of(6), [34, 1, 2]),
    (check_schedule(35, [0, 2, 1], [0, 9, 21]), [1]),
    (min_cycle_time_if(1, 99), [103]),
    (list_machines(), [3, 0, 20, 5, 10, 30, 4, 4, 10, 6]),
)

# Calls with a wrong parameter, each with the code it is answered where there are MACHINES.
WRONG = (
    (add_machine(-1, 2, 3), -22), (add_machine(LEAST, MOST, 0), -22), (remove_machine(-1), -2),
    (remove_machine(6), -2), (set_position(-1, 100), -2), (set_position(0, MOST), -22), (set_run_time(MOST, -1), -2),
    (set_run_time(0, LEAST), -22), (set_service_time(LEAST, 0), -2), (set_service_time(0, 0), -22),
    (cycle_time([0, 0]), -22), (cycle_time([-1]), -22), (cycle_time(list(range(70))), -22),
    (start_times([0, 0]), -22), (start_times([-1]), -22), (start_times(list(range(70))), -22), (idle_time(-1), -2),
    (idle_time(3), -2), (idle_time(LEAST), -2), (idle_time(MOST), -2), (largest_group(-1), -22),
    (largest_group(LEAST), -22), (best_tour_of(-1), -22), (best_tour_of(8), -22), (best_tour_of(LEAST), -22),
    (best_tour_of(MOST), -22), (check_schedule(-1, [], []), -22), (check_schedule(10000, [0], [0]), -22),
    (check_schedule(35, [0, 0], [0, 0]), -22), (check_schedule(35, [0], [0, 0]), -22),
    (check_schedule(35, [0], [-1]), -22), (check_schedule(MOST, [LEAST] * 70, [MOST] * 70), -22),
    (min_cycle_time_if(-1, 100), -2), (min_cycle_time_if(0, 100), -22), (min_cycle_time_if(MOST, LEAST), -2),
)


def refuse(*given):
    raise AssertionError("the list handed in is changed")


class Watched(list):
    """A list that takes no change, so that one for a while is noticed, too."""

    append = clear = extend = insert = pop = remove = reverse = sort = refuse
    __setitem__ = __delitem__ = __iadd__ = __imul__ = refuse


class Example(unittest.TestCase):
    def test_calls_of_the_documents_example(self):
        answered = ask(create(), add_machine(0, 20, 5), add_machine(10, 30, 4), add_machine(4, 10, 6),
                       cycle_time([0, 1, 2]), best_tour(), wall_order(), start_times([0, 2, 1]), idle_time(0),
                       utilization(), largest_group(34), check_schedule(35, [0, 2, 1], [0, 9, 21]),
                       check_schedule(34, [0, 2, 1], [0, 9, 21]), add_machine(100, 1, 1))
        self.assertEqual(answered, [[0], [0], [1], [2], [35, 35, 20], [35, 0, 1, 2], [35, 0, 2, 1], [3, 0, 9, 21],
                                    [10], [0, 1, 1], [2, 0, 1], [1], [0], [-22]])

    def test_the_example_as_one_list(self):
        calls = [0, 1, 0, 20, 5, 1, 10, 30, 4, 1, 4, 10, 6, 8, 3, 0, 1, 2, 7, 9, 10, 3, 0, 2, 1, 11, 0, 12, 13, 34,
                 15, 35, 3, 0, 2, 1, 3, 0, 9, 21, 15, 34, 3, 0, 2, 1, 3, 0, 9, 21, 1, 100, 1, 1]
        self.assertEqual(answers(calls),
                         [1, 0, 1, 0, 1, 1, 1, 2, 3, 35, 35, 20, 4, 35, 0, 1, 2, 4, 35, 0, 2, 1, 4, 3, 0, 9, 21,
                          1, 10, 3, 0, 1, 1, 3, 2, 0, 1, 1, 1, 1, 0, 1, -22])


class EachCall(unittest.TestCase):
    def test_there_is_one_of_each_number(self):
        self.assertEqual([call[0] for call, _ in EACH], list(range(1, 18)))

    def test_the_numbers_and_rows_of_each(self):
        written = [[1, 1, 2, 3], [2, 0], [3, 0, 1], [4, 0, 1], [5, 0, 1], [6], [7], [8, 2, 0, 2], [9],
                   [10, 3, 1, 2, 0], [11, 2], [12], [13, 25], [14, 6], [15, 35, 3, 0, 2, 1, 3, 0, 9, 21],
                   [16, 1, 99], [17]]
        self.assertEqual([call for call, _ in EACH], written)

    def test_each_alone(self):
        for call, expected in EACH:
            with self.subTest(call=call):
                self.assertEqual(ask_after(MACHINES, call), [expected])

    def test_each_behind_each_that_changes_nothing(self):
        for first, answer in EACH[5:] + tuple((call, [code]) for call, code in WRONG):
            for second, expected in EACH:
                with self.subTest(first=first, second=second):
                    self.assertEqual(ask_after(MACHINES, first, second), [answer, expected])

    def test_create_behind_each(self):
        for call, expected in EACH:
            with self.subTest(call=call):
                self.assertEqual(ask_after(MACHINES, call, create(), list_machines()), [expected, [0], [0]])


class AheadOfCreate(unittest.TestCase):
    def test_every_call_is_answered_by_no_instance(self):
        for call, _ in EACH:
            with self.subTest(call=call):
                self.assertEqual(answers(call), [1, -11])

    def test_empty_rows(self):
        for call in (cycle_time([]), start_times([]), check_schedule(0, [], [])):
            with self.subTest(call=call):
                self.assertEqual(ask(call, create(), call)[:2], [[-11], [0]])

    def test_no_instance_goes_ahead_of_every_other_error(self):
        for call, _ in WRONG:
            with self.subTest(call=call):
                self.assertEqual(answers(call), [1, -11])

    def test_calls_ahead_of_create_leave_nothing_behind(self):
        answered = ask(add_machine(1, 2, 3), add_machine(4, 5, 6), create(), min_cycle_time(), best_tour(),
                       list_machines(), add_machine(7, 8, 9))
        self.assertEqual(answered, [[-11], [-11], [0], [0], [0], [0], [0]])

    def test_they_are_read_whole(self):
        ahead = [call for call, _ in EACH + WRONG]
        self.assertEqual(ask(*ahead, create()), [[-11]] * len(ahead) + [[0]])


class Create(unittest.TestCase):
    def test_alone(self):
        self.assertEqual(answers([0]), [1, 0])

    def test_a_new_instance_has_no_machines(self):
        self.assertEqual(ask_after([], *probes()), probed([]))

    def test_a_second_create_replaces_the_instance(self):
        answered = ask_after(MACHINES, create(), min_cycle_time(), best_tour(), cycle_time([0]), remove_machine(0),
                             list_machines(), utilization(), best_tour_of(1), add_machine(1, 2, 3), best_tour())
        self.assertEqual(answered, [[0], [0], [0], [-22], [-2], [0], [-6], [-22], [0], [5, 0]])

    def test_a_second_create_makes_room_for_six_machines(self):
        again = [add_machine(k, k, k + 1) for k in range(7)]
        answered = ask_after([(50, 50, 50)] * 6, create(), *again)
        self.assertEqual(answered, [[0], [0], [1], [2], [3], [4], [5], [-28]])

    def test_create_twice_at_once(self):
        self.assertEqual(ask(create(), create(), create(), min_cycle_time()), [[0], [0], [0], [0]])


class Lists(unittest.TestCase):
    def test_what_is_handed_in_stays_as_it_is(self):
        calls = joined(built(MACHINES) + [call for call, _ in WRONG] + [call for call, _ in EACH])
        before = list(calls)
        answers(calls)
        self.assertEqual(calls, before)

    def test_what_is_handed_in_is_not_changed_for_a_while_either(self):
        calls = Watched(joined([best_tour()] + built(MACHINES) + [call for call, _ in WRONG]
                               + [call for call, _ in EACH] + [create()]))
        self.assertEqual(answers(calls), answers(list(calls)))

    def test_the_list_given_back_is_another_one(self):
        calls = [0]
        answered = answers(calls)
        answered.append(7)
        self.assertEqual(calls, [0])
        self.assertEqual(answers(calls), [1, 0])

    def test_two_calls_of_answers_do_not_know_of_each_other(self):
        first = joined([create()] + [add_machine(*machine) for machine in MACHINES])
        self.assertEqual(answers(first), [1, 0, 1, 0, 1, 1, 1, 2])
        self.assertEqual(answers(joined([best_tour()])), [1, -11])
        self.assertEqual(answers(joined([add_machine(1, 1, 1)])), [1, -11])
        self.assertEqual(answers(joined([create(), best_tour(), add_machine(1, 1, 1)])), [1, 0, 1, 0, 1, 0])
        self.assertEqual(answers(first), [1, 0, 1, 0, 1, 1, 1, 2])

    def test_the_same_list_is_answered_the_same_each_time(self):
        calls = joined([create()] + [add_machine(*machine) for machine in MACHINES]
                       + [best_tour(), remove_machine(1), best_tour()])
        once = list(answers(calls))
        for _ in range(3):
            self.assertEqual(answers(calls), once)

    def test_what_is_given_back_are_whole_numbers_in_a_list(self):
        for machines in ([], MACHINES):
            answered = answers(joined(built(machines) + [call for call, _ in EACH[5:] + EACH[:5] + WRONG]))
            self.assertIs(type(answered), list)
            self.assertEqual({type(number) for number in answered}, {int})

    def test_neither_of_the_answers_to_check_schedule_is_true_or_false(self):
        for cycle, expected in ((34, 0), (35, 1)):
            answer = ask_after(MACHINES, check_schedule(cycle, [0, 2, 1], [0, 9, 21]))[0]
            self.assertEqual([(type(number), number) for number in answer], [(int, expected)])

    def test_sixty_calls(self):
        tour = list(range(70))
        self.assertEqual(ask(create(), *[cycle_time(tour)] * 59), [[0]] + [[-22]] * 59)
        self.assertEqual(ask(*[best_tour()] * 60), [[-11]] * 60)
        schedule = check_schedule(0, tour, tour)
        self.assertEqual(ask(create(), *[schedule] * 59), [[0]] + [[-22]] * 59)

    def test_the_longest_list_there_may_be(self):
        calls = joined([check_schedule(MOST, [LEAST] * 70, [MOST] * 70)] * 60)
        self.assertEqual(len(calls), 8640)
        self.assertEqual(answers(calls), [1, -11] * 60)
        self.assertEqual(answers([0] + calls), [1, 0] + [1, -22] * 60)

    def test_sixty_calls_of_all_numbers(self):
        queries = EACH[5:]
        calls = built(MACHINES) + [call for call, _ in queries * 4 + queries[:8]]
        self.assertEqual(len(calls), 60)
        self.assertEqual(ask(*calls)[4:], [expected for _, expected in queries * 4 + queries[:8]])

    def test_sixty_calls_on_six_machines(self):
        machines = [(0, 0, 1), (99, 0, 1), (1, 0, 1), (98, 0, 1), (2, 0, 1), (97, 0, 1)]
        answered = ask_after(machines, *[best_tour()] * 53)
        self.assertEqual(answered, [[204, 0, 1, 3, 5, 4, 2]] * 53)
        answered = ask_after(machines, *[largest_group(203), best_tour_of(63), utilization()] * 17)
        self.assertEqual(answered, [[5, 0, 1, 2, 3, 4], [204, 0, 1, 3, 5, 4, 2], [0, 1, 1]] * 17)


if __name__ == "__main__":
    unittest.main()

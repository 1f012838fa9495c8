"""How calls are handed in and answers given back; create, and what goes ahead of it."""

import unittest

from tendwall.shop import answers
from tests.calls import (LEAST, MOST, add_machine, ask, ask_after, best_tour, create, cycle_time, joined,
                         min_cycle_time, probed, probes, remove_machine, set_position, set_run_time,
                         set_service_time)

MACHINES = [(0, 20, 5), (10, 30, 4), (4, 10, 6)]


def refuse(*given):
    raise AssertionError("the list handed in is changed")


class Watched(list):
    """A list that takes no change, so that one for a while is noticed, too."""

    append = clear = extend = insert = pop = remove = reverse = sort = refuse
    __setitem__ = __delitem__ = __iadd__ = __imul__ = refuse


class Example(unittest.TestCase):
    def test_calls_of_the_documents_example(self):
        answered = ask(create(), add_machine(0, 20, 5), add_machine(10, 30, 4), add_machine(4, 10, 6),
                       cycle_time([0, 1, 2]), best_tour(), add_machine(100, 1, 1))
        self.assertEqual(answered, [[0], [0], [1], [2], [35, 35, 20], [35, 0, 1, 2], [-22]])

    def test_the_example_as_one_list(self):
        calls = [0, 1, 0, 20, 5, 1, 10, 30, 4, 1, 4, 10, 6, 8, 3, 0, 1, 2, 7, 1, 100, 1, 1]
        self.assertEqual(answers(calls),
                         [1, 0, 1, 0, 1, 1, 1, 2, 3, 35, 35, 20, 4, 35, 0, 1, 2, 1, -22])


class AheadOfCreate(unittest.TestCase):
    def test_every_call_is_answered_by_no_instance(self):
        for call in (add_machine(1, 2, 3), remove_machine(0), set_position(0, 1), set_run_time(0, 1),
                     set_service_time(0, 1), min_cycle_time(), best_tour(), cycle_time([]), cycle_time([0])):
            with self.subTest(call=call):
                self.assertEqual(answers(call), [1, -11])

    def test_no_instance_goes_ahead_of_every_other_error(self):
        for call in (add_machine(-1, 2, 3), add_machine(LEAST, MOST, 0), remove_machine(-1), remove_machine(6),
                     set_position(-1, 100), set_run_time(MOST, -1), set_service_time(LEAST, 0),
                     cycle_time([0, 0]), cycle_time([-1]), cycle_time(list(range(70)))):
            with self.subTest(call=call):
                self.assertEqual(answers(call), [1, -11])

    def test_calls_ahead_of_create_leave_nothing_behind(self):
        answered = ask(add_machine(1, 2, 3), add_machine(4, 5, 6), create(), min_cycle_time(), best_tour(),
                       add_machine(7, 8, 9))
        self.assertEqual(answered, [[-11], [-11], [0], [0], [0], [0]])

    def test_they_are_read_whole(self):
        answered = ask(cycle_time([0, 0, 0, 0]), set_run_time(0, 0), remove_machine(0), create())
        self.assertEqual(answered, [[-11], [-11], [-11], [0]])


class Create(unittest.TestCase):
    def test_alone(self):
        self.assertEqual(answers([0]), [1, 0])

    def test_a_new_instance_has_no_machines(self):
        self.assertEqual(ask_after([], *probes()), probed([]))

    def test_a_second_create_replaces_the_instance(self):
        answered = ask_after(MACHINES, create(), min_cycle_time(), best_tour(), cycle_time([0]), remove_machine(0),
                             add_machine(1, 2, 3), best_tour())
        self.assertEqual(answered, [[0], [0], [0], [-22], [-2], [0], [5, 0]])

    def test_a_second_create_makes_room_for_six_machines(self):
        again = [add_machine(k, k, k + 1) for k in range(7)]
        answered = ask_after([(50, 50, 50)] * 6, create(), *again)
        self.assertEqual(answered, [[0], [0], [1], [2], [3], [4], [5], [-28]])

    def test_create_twice_at_once(self):
        self.assertEqual(ask(create(), create(), create(), min_cycle_time()), [[0], [0], [0], [0]])


class Lists(unittest.TestCase):
    def test_what_is_handed_in_stays_as_it_is(self):
        calls = joined([create()] + [add_machine(*machine) for machine in MACHINES]
                       + [cycle_time([2, 0, 1]), cycle_time([2, 2]), best_tour(), set_position(1, 3),
                          remove_machine(0), cycle_time([1, 0]), add_machine(100, 0, 0)])
        before = list(calls)
        answers(calls)
        self.assertEqual(calls, before)

    def test_what_is_handed_in_is_not_changed_for_a_while_either(self):
        calls = Watched(joined([best_tour(), create()] + [add_machine(*machine) for machine in MACHINES]
                               + [cycle_time([2, 0, 1]), cycle_time([3]), best_tour(), min_cycle_time(),
                                  set_position(1, 3), set_run_time(1, 3), set_service_time(1, 3),
                                  remove_machine(0), create()]))
        self.assertEqual(answers(calls), answers(list(calls)))

    def test_the_list_given_back_is_another_one(self):
        calls = [0]
        answered = answers(calls)
        answered.append(7)
        self.assertEqual(calls, [0])
        self.assertEqual(answers(calls), [1, 0])

    def test_two_calls_of_answers_do_not_know_of_each_other(self):
        first = joined([create()] + [add_machine(*machine) for machine in MACHINES])
        self.assertEqual(answers(first), [1, 0, 1, 0, 1, 1, 1, 2])
        self.assertEqual(answers(joined([best_tour()])), [1, -11])
        self.assertEqual(answers(joined([add_machine(1, 1, 1)])), [1, -11])
        self.assertEqual(answers(joined([create(), best_tour(), add_machine(1, 1, 1)])), [1, 0, 1, 0, 1, 0])
        self.assertEqual(answers(first), [1, 0, 1, 0, 1, 1, 1, 2])

    def test_the_same_list_is_answered_the_same_each_time(self):
        calls = joined([create()] + [add_machine(*machine) for machine in MACHINES]
                       + [best_tour(), remove_machine(1), best_tour()])
        once = list(answers(calls))
        for _ in range(3):
            self.assertEqual(answers(calls), once)

    def test_what_is_given_back_are_whole_numbers_in_a_list(self):
        answered = answers(joined([create(), min_cycle_time(), add_machine(1, 0, 1), set_run_time(0, 1),
                                   cycle_time([]), cycle_time([0]), cycle_time([1]), best_tour(),
                                   remove_machine(0)]))
        self.assertIs(type(answered), list)
        self.assertEqual({type(number) for number in answered}, {int})

    def test_sixty_calls(self):
        tour = list(range(70))
        self.assertEqual(ask(create(), *[cycle_time(tour)] * 59), [[0]] + [[-22]] * 59)
        self.assertEqual(ask(*[best_tour()] * 60), [[-11]] * 60)

    def test_sixty_calls_on_six_machines(self):
        machines = [(0, 0, 1), (99, 0, 1), (1, 0, 1), (98, 0, 1), (2, 0, 1), (97, 0, 1)]
        answered = ask_after(machines, *[best_tour()] * 53)
        self.assertEqual(answered, [[204, 0, 1, 3, 5, 4, 2]] * 53)


if __name__ == "__main__":
    unittest.main()

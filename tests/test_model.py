"""Many requests of all calls, each answer compared with the document's words in tests/model.py."""

import random
import unittest

from tests import calls
from tests.model import Model, cycle_time, start_times

ODD = (calls.LEAST, -100, -7, -2, -1, 6, 7, 64, 100, 101, 9999, 10000, calls.MOST)


def some_number(chance, least, most):
    return chance.choice(ODD) if chance.random() < 0.06 else chance.randint(least, most)


def some_tour(chance, count):
    """Mostly a tour of some of the first count machines."""
    tour = chance.sample(range(count), chance.randint(0, count))
    if chance.random() < 0.15:
        tour.insert(chance.randint(0, len(tour)), chance.choice(ODD + (0, 1, 2, 3, 4, 5)))
    return tour


def some_schedule(chance, machines):
    """Mostly a schedule that is just feasible, or that something is wrong with."""
    tour = some_tour(chance, len(machines))
    if not Model.is_tour_of(machines, tour):
        return calls.check_schedule(some_number(chance, 0, 300), tour, [k * 100 for k in range(len(tour))])
    later = chance.choice((0, 0, 1, 50, 9000))
    starts = [start + later for start in start_times(machines, tour)]
    cycle = cycle_time(machines, tour) + chance.choice((-1, 0, 0, 0, 1, 50))
    if starts and chance.random() < 0.4:
        starts[chance.randrange(len(starts))] += chance.choice((-2, -1, -1, 1, 1, 2, 30, 10000, -10000))
    if starts and chance.random() < 0.05:
        starts.pop()
    if chance.random() < 0.05:
        starts.append(9000)
    return calls.check_schedule(cycle, tour, starts)


def some_call(chance, machines, widest):
    """A call that suits an instance with these machines, for the most part."""
    number = chance.choice((1,) * 6 + tuple(range(2, 18)) + (7, 8, 14, 15, 15))
    if chance.random() < 0.02:
        return calls.create()
    if number == 1:
        return calls.add_machine(some_number(chance, 0, widest), some_number(chance, 0, 99),
                                 some_number(chance, 1, 20))
    if number in (2, 11):
        return [number, some_number(chance, 0, 5)]
    if number in (3, 4, 5, 16):
        return [number, some_number(chance, 0, 5), some_number(chance, 1, 99)]
    if number in (8, 10):
        tour = some_tour(chance, len(machines))
        return [number, len(tour)] + tour
    if number == 13:
        return calls.largest_group(some_number(chance, 0, 300))
    if number == 14:
        return calls.best_tour_of(some_number(chance, 0, 2 ** len(machines)))
    if number == 15:
        return some_schedule(chance, machines)
    return [number]


class Requests(unittest.TestCase):
    def test_requests_made_by_chance(self):
        numbers, codes, feasible = set(), set(), set()
        for seed in range(250):
            chance = random.Random(seed)
            widest = chance.choice((0, 3, 10, 30, 99))
            model = Model()
            asked = [[0]] * (seed % 10 > 0)
            expected = [model.answer(call) for call in asked]
            for _ in range(chance.randint(1, 59)):
                asked.append(some_call(chance, model.machines or [], widest))
                expected.append(model.answer(asked[-1]))
            with self.subTest(seed=seed):
                self.assertEqual(calls.ask(*asked), expected)
            numbers.update(call[0] for call in asked)
            codes.update((call[0], answer[0]) for call, answer in zip(asked, expected) if answer[0] < 0)
            feasible.update(answer[0] for call, answer in zip(asked, expected) if call[0] == 15)
        self.check_that_all_was_there(numbers, codes, feasible)

    def check_that_all_was_there(self, numbers, codes, feasible):
        self.assertEqual(numbers, set(range(18)))
        self.assertEqual(feasible, {-11, -22, 0, 1})
        self.assertEqual({number for number, code in codes if code == -11}, set(range(1, 18)))
        self.assertEqual({number for number, code in codes if code == -2}, {2, 3, 4, 5, 11, 16})
        self.assertEqual({number for number, code in codes if code == -22}, {1, 3, 4, 5, 8, 10, 13, 14, 15, 16})
        self.assertEqual({number for number, code in codes if code == -28}, {1})
        self.assertEqual({number for number, code in codes if code == -6}, {12})


if __name__ == "__main__":
    unittest.main()

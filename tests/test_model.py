"""Many requests of calls 0 to 8, each answer compared with the document's words in tests/model.py."""

import random
import unittest

from tests.calls import LEAST, MOST, ask
from tests.model import Model

ODD = (LEAST, -100, -7, -2, -1, 6, 7, 100, 101, MOST)


def some_number(chance, least, most):
    return chance.choice(ODD) if chance.random() < 0.06 else chance.randint(least, most)


def some_tour(chance):
    tour = chance.sample(range(6), chance.randint(0, 6))
    if chance.random() < 0.2:
        tour.insert(chance.randint(0, len(tour)), chance.choice(ODD + (0, 1, 2, 3, 4, 5)))
    return [len(tour)] + tour


def some_call(chance, widest):
    number = chance.choice((1, 1, 1, 1, 1, 2, 3, 4, 5, 6, 7, 7, 8, 8))
    if chance.random() < 0.02:
        return [0]
    if number == 1:
        return [1, some_number(chance, 0, widest), some_number(chance, 0, 99), some_number(chance, 1, 20)]
    if number == 2:
        return [2, some_number(chance, 0, 5)]
    if number in (3, 4, 5):
        return [number, some_number(chance, 0, 5), some_number(chance, 0 if number < 5 else 1, 99)]
    if number == 8:
        return [8] + some_tour(chance)
    return [number]


class Requests(unittest.TestCase):
    def test_requests_made_by_chance(self):
        for seed in range(150):
            chance = random.Random(seed)
            widest = chance.choice((0, 3, 10, 30, 99))
            calls = [[0]] * (seed % 10 > 0) + [some_call(chance, widest) for _ in range(chance.randint(1, 40))]
            model = Model()
            expected = [model.answer(call) for call in calls]
            with self.subTest(seed=seed):
                self.assertEqual(ask(*calls), expected)


if __name__ == "__main__":
    unittest.main()

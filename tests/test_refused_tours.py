"""What cycle_time, start_times and check_schedule refuse in their lists."""

import unittest

from tests.calls import LEAST, MOST, ask_after, check_schedule, cycle_time, start_times

THREE = [(0, 20, 5), (10, 30, 4), (4, 10, 6)]
SIX = [(50, 0, 1), (10, 0, 2), (40, 0, 3), (20, 0, 4), (30, 0, 5), (0, 0, 6)]
TWICE = [[0, 0], [0, 1, 0], [2, 1, 1], [1, 0, 2, 1], [0, 1, 2, 2]]
OUTSIDE = [tour for i in (LEAST, LEAST + 1, -4, -3, -2, -1, 3, 4, 6, 99, MOST - 1, MOST)
           for tour in ([i], [i, 0, 1], [0, i, 1], [0, 1, i], [0, 1, 2, i])]
SEVENTY = [[0] * 70, [0, 1, 2, 3, 4, 5] + [0] * 64, list(range(70)), [LEAST] * 35 + [MOST] * 35, [LEAST] * 70,
           [MOST] * 70]


def schedule(tour):
    """A schedule in which nothing but the tour can be refused."""
    return check_schedule(9999, tour, [100 * k for k in range(len(tour))])


class Tours(unittest.TestCase):
    def refuse(self, machines, tours):
        for tour in tours:
            calls = [cycle_time(tour), start_times(tour), schedule(tour)]
            behind = [cycle_time([]), start_times([]), schedule([])]
            with self.subTest(machines=len(machines), tour=tour):
                self.assertEqual(ask_after(machines, *calls, *behind), [[-22]] * 3 + [[0, 0, 0], [0], [1]])

    def test_an_index_twice(self):
        self.refuse(THREE, TWICE)

    def test_an_index_of_no_machine(self):
        self.refuse(THREE, OUTSIDE)

    def test_any_index_where_there_are_no_machines(self):
        self.refuse([], [[LEAST], [-1], [0], [1], [MOST]])

    def test_seventy_numbers(self):
        self.refuse(SIX, SEVENTY)

    def test_seventy_numbers_in_both_lists_of_a_schedule(self):
        calls = [check_schedule(35, tour, starts) for tour in SEVENTY for starts in SEVENTY]
        calls += [check_schedule(MOST, [0] * 70, [0]), check_schedule(LEAST, [0], [0] * 70)]
        behind = check_schedule(121, [5, 1, 3, 4, 2, 0], [0, 16, 28, 42, 57, 70])
        self.assertEqual(ask_after(SIX, *calls, behind), [[-22]] * 38 + [[1]])


if __name__ == "__main__":
    unittest.main()

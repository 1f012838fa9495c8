"""The document's words about all calls, put down as plainly as can be, to compare the program with.

Machines are tuples (position, run_time, service_time). What is the shortest is found by looking at everything.
"""

from fractions import Fraction
from functools import lru_cache
from itertools import combinations, permutations


def walking_time(machines, tour):
    positions = [machines[i][0] for i in tour]
    return sum(abs(p - q) for p, q in zip(positions, positions[1:] + positions[:1]))


def busy_time(machines, tour):
    return sum(machines[i][2] for i in tour) + walking_time(machines, tour)


def cycle_time(machines, tour):
    return max([0, busy_time(machines, tour)] + [machines[i][1] + machines[i][2] for i in tour])


def best_tour(machines):
    """The time and the machines of the best tour, by looking at every permutation."""
    return best_tour_of(machines, range(len(machines)))


def best_tour_of(machines, members):
    return least_of(tuple(map(tuple, machines)), tuple(members))


@lru_cache(maxsize=None)
def least_of(machines, members):
    return min((cycle_time(machines, tour), tour) for tour in permutations(members))


def wall_order(machines):
    return sorted(range(len(machines)), key=lambda i: (machines[i][0], i))


def start_times(machines, tour):
    """Each start is the sum of all that goes ahead of it."""
    return [sum(machines[i][2] for i in tour[:k])
            + sum(abs(machines[i][0] - machines[j][0]) for i, j in zip(tour[:k], tour[1:k + 1]))
            for k in range(len(tour))]


def bitmask(members):
    return sum(2 ** i for i in members)


def largest_group(machines, limit):
    """The members of the largest set within the limit, by looking at every set."""
    sets = [members for size in range(len(machines) + 1) for members in combinations(range(len(machines)), size)]
    within = [members for members in sets if best_tour_of(machines, members)[0] <= limit]
    return min(within, key=lambda members: (-len(members), bitmask(members)))


def is_feasible(machines, cycle, tour, starts):
    for k in range(len(tour)):
        i, last = tour[k], k == len(tour) - 1
        j = tour[0] if last else tour[k + 1]
        next_start = starts[0] + cycle if last else starts[k + 1]
        if not starts[k] + machines[i][2] + abs(machines[i][0] - machines[j][0]) <= next_start:
            return 0
        if not machines[i][1] + machines[i][2] <= cycle:
            return 0
    return 1


class Model:
    """An instance: what it answers to each call, which is a list as tests/calls.py writes it."""

    def __init__(self):
        self.machines = None

    def answer(self, call):
        number, given = call[0], call[1:]
        if number == 0:
            self.machines = []
            return [0]
        if self.machines is None:
            return [-11]
        if number in (3, 4, 5):
            return self.change(number - 3, *given)
        return {1: self.add, 2: self.remove, 6: self.shortest, 7: self.best, 8: self.times, 9: self.along,
                10: self.starts, 11: self.idle, 12: self.utilization, 13: self.group, 14: self.best_of,
                15: self.schedule, 16: self.shortest_if, 17: self.listed}[number](*given)

    def add(self, *machine):
        if not all(self.fits(which, number) for which, number in enumerate(machine)):
            return [-22]
        if len(self.machines) == 6:
            return [-28]
        self.machines.append(machine)
        return [len(self.machines) - 1]

    def remove(self, i):
        if not self.has(i):
            return [-2]
        self.machines = self.machines[:i] + self.machines[i + 1:]
        return [len(self.machines)]

    def change(self, which, i, number):
        if not self.has(i):
            return [-2]
        if not self.fits(which, number):
            return [-22]
        machine = list(self.machines[i])
        old, machine[which] = machine[which], number
        self.machines = self.machines[:i] + [tuple(machine)] + self.machines[i + 1:]
        return [old]

    def shortest(self):
        return [best_tour(self.machines)[0]]

    def best(self):
        time, tour = best_tour(self.machines)
        return [time, *tour]

    def times(self, _, *tour):
        if not self.is_tour(tour):
            return [-22]
        return [kind(self.machines, tour) for kind in (cycle_time, busy_time, walking_time)]

    def along(self):
        order = wall_order(self.machines)
        return [cycle_time(self.machines, order)] + order

    def starts(self, _, *tour):
        if not self.is_tour(tour):
            return [-22]
        return [len(tour)] + start_times(self.machines, tour)

    def idle(self, i):
        if not self.has(i):
            return [-2]
        return [best_tour(self.machines)[0] - self.machines[i][1] - self.machines[i][2]]

    def utilization(self):
        if not self.machines:
            return [-6]
        part = Fraction(busy_time(self.machines, wall_order(self.machines)), best_tour(self.machines)[0])
        return [0, part.numerator, part.denominator]

    def group(self, limit):
        if limit < 0:
            return [-22]
        members = largest_group(self.machines, limit)
        return [len(members), *members]

    def best_of(self, mask):
        if mask not in range(2 ** len(self.machines)):
            return [-22]
        time, tour = best_tour_of(self.machines, [i for i in range(6) if mask // 2 ** i % 2])
        return [time, *tour]

    def schedule(self, cycle, length, *rows):
        tour, starts = rows[:length], rows[length + 1:]
        if not self.is_tour(tour) or len(starts) != length:
            return [-22]
        if not all(0 <= time <= 9999 for time in (cycle, *starts)):
            return [-22]
        return [is_feasible(self.machines, cycle, tour, starts)]

    def shortest_if(self, i, run_time):
        other = Model()
        other.machines = list(self.machines)
        answer = other.change(1, i, run_time)
        return answer if answer[0] < 0 else other.shortest()

    def listed(self):
        return [len(self.machines)] + [number for machine in self.machines for number in machine]

    def has(self, i):
        return i in range(len(self.machines))

    def is_tour(self, tour):
        return self.is_tour_of(self.machines, tour)

    @staticmethod
    def is_tour_of(machines, tour):
        return len(set(tour)) == len(tour) and all(i in range(len(machines)) for i in tour)

    @staticmethod
    def fits(which, number):
        return (0, 0, 1)[which] <= number <= 99

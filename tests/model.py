"""The document's words about calls 0 to 8, put down as plainly as can be, to compare the program with."""

from itertools import permutations


def walking_time(machines, tour):
    positions = [machines[i][0] for i in tour]
    return sum(abs(p - q) for p, q in zip(positions, positions[1:] + positions[:1]))


def busy_time(machines, tour):
    return sum(machines[i][2] for i in tour) + walking_time(machines, tour)


def cycle_time(machines, tour):
    return max([0, busy_time(machines, tour)] + [machines[i][1] + machines[i][2] for i in tour])


def best_tour(machines):
    """The time and the machines of the best tour, by looking at every permutation."""
    return min((cycle_time(machines, tour), tour) for tour in permutations(range(len(machines))))


class Model:
    def __init__(self):
        self.machines = None

    def answer(self, call):
        number, given = call[0], call[1:]
        if number == 0:
            self.machines = []
            return [0]
        if self.machines is None:
            return [-11]
        if number == 1:
            return self.add(given)
        if number == 2:
            return self.remove(given[0])
        if number in (3, 4, 5):
            return self.change(number - 3, given[0], given[1])
        if number == 6:
            return [best_tour(self.machines)[0]]
        if number == 7:
            time, tour = best_tour(self.machines)
            return [time, *tour]
        return self.times(given[1:])

    def add(self, given):
        if not all(self.fits(which, number) for which, number in enumerate(given)):
            return [-22]
        if len(self.machines) == 6:
            return [-28]
        self.machines.append(list(given))
        return [len(self.machines) - 1]

    def remove(self, i):
        if i not in range(len(self.machines)):
            return [-2]
        self.machines = self.machines[:i] + self.machines[i + 1:]
        return [len(self.machines)]

    def change(self, which, i, number):
        if i not in range(len(self.machines)):
            return [-2]
        if not self.fits(which, number):
            return [-22]
        old = self.machines[i][which]
        self.machines[i][which] = number
        return [old]

    def times(self, tour):
        if len(set(tour)) < len(tour) or not set(tour) <= set(range(len(self.machines))):
            return [-22]
        machines = self.machines
        return [cycle_time(machines, tour), busy_time(machines, tour), walking_time(machines, tour)]

    @staticmethod
    def fits(which, number):
        return (0, 0, 1)[which] <= number <= 99

"""An instance: the machines along the wall, and the operations on them."""

from tendwall.groups import count_masks, find_largest_group, find_members
from tendwall.machine import Machine, check_position, check_range, check_run_time, check_service_time
from tendwall.refusals import BadParameter, NoMachines, NoSuchMachine, TooManyMachines
from tendwall.schedules import find_start_times, is_feasible
from tendwall.shares import find_lowest_terms
from tendwall.tours import (find_best_tour, find_busy_time, find_cycle_time, find_min_cycle_time,
                            find_walking_time, find_wall_order)

MOST_MACHINES = 6
MOST_SCHEDULE_TIME = 9999


class Wall:
    """The machines that one operator tends.

    Each operation checks all of its parameters ahead of its first change, so that a refused one changes nothing.
    """

    def __init__(self):
        self.machines = []

    def add_machine(self, position, run_time, service_time):
        """Append a machine; its index."""
        check_position(position)
        check_run_time(run_time)
        check_service_time(service_time)
        if len(self.machines) >= MOST_MACHINES:
            raise TooManyMachines()
        self.machines.append(Machine(position, run_time, service_time))
        return len(self.machines) - 1

    def remove_machine(self, i):
        """Remove machine i; how many remain."""
        self.check_machine(i)
        self.machines.pop(i)
        return len(self.machines)

    def set_position(self, i, position):
        """Change the position of machine i; the previous one."""
        self.check_machine(i)
        check_position(position)
        machine = self.machines[i]
        old_position = machine.position
        machine.position = position
        return old_position

    def set_run_time(self, i, run_time):
        """Change the run time of machine i; the previous one."""
        self.check_machine(i)
        check_run_time(run_time)
        machine = self.machines[i]
        old_run_time = machine.run_time
        machine.run_time = run_time
        return old_run_time

    def set_service_time(self, i, service_time):
        """Change the service time of machine i; the previous one."""
        self.check_machine(i)
        check_service_time(service_time)
        machine = self.machines[i]
        old_service_time = machine.service_time
        machine.service_time = service_time
        return old_service_time

    def min_cycle_time(self):
        """The minimum cycle time of all machines."""
        return find_min_cycle_time(self.machines, self.all_members())

    def best_tour(self):
        """The best tour of all machines."""
        return find_best_tour(self.machines, self.all_members())

    def cycle_time(self, tour):
        """The cycle time of a tour."""
        self.check_tour(tour)
        return find_cycle_time(self.machines, tour)

    def busy_time(self, tour):
        """The busy time of a tour."""
        self.check_tour(tour)
        return find_busy_time(self.machines, tour)

    def walking_time(self, tour):
        """The walking time of a tour."""
        self.check_tour(tour)
        return find_walking_time(self.machines, tour)

    def wall_order(self):
        """The wall order of all machines."""
        return find_wall_order(self.machines, self.all_members())

    def start_times(self, tour):
        """The start times of a tour."""
        self.check_tour(tour)
        return find_start_times(self.machines, tour)

    def idle_time(self, i):
        """How long machine i is idle in each cycle of the best tour."""
        self.check_machine(i)
        return self.min_cycle_time() - self.machines[i].own_time()

    def utilization(self):
        """The part of each cycle that the operator is at work, in lowest terms."""
        if len(self.machines) == 0:
            raise NoMachines()
        return find_lowest_terms(self.busy_time(self.wall_order()), self.min_cycle_time())

    def largest_group(self, limit):
        """The largest set of machines with a minimum cycle time within the limit."""
        if limit < 0:
            raise BadParameter()
        return find_largest_group(self.machines, limit)

    def best_tour_of(self, mask):
        """The best tour of the set with this bitmask."""
        check_range(mask, 0, count_masks(self.machines) - 1)
        return find_best_tour(self.machines, find_members(mask))

    def check_schedule(self, cycle, tour, starts):
        """Whether a schedule is feasible."""
        self.check_tour(tour)
        if len(starts) != len(tour):
            raise BadParameter()
        for time in [cycle] + starts:
            check_range(time, 0, MOST_SCHEDULE_TIME)
        return is_feasible(self.machines, cycle, tour, starts)

    def min_cycle_time_if(self, i, run_time):
        """The minimum cycle time of all machines, had machine i this run time."""
        self.check_machine(i)
        check_run_time(run_time)
        machine = self.machines[i]
        changed = Machine(machine.position, run_time, machine.service_time)
        machines = self.machines[:i] + [changed] + self.machines[i + 1:]
        return find_min_cycle_time(machines, self.all_members())

    def all_members(self):
        """The indices of all machines, ascending."""
        return list(range(len(self.machines)))

    def check_machine(self, i):
        """Refuse an index of no machine."""
        if not self.has_machine(i):
            raise NoSuchMachine()

    def check_tour(self, tour):
        """Refuse a tour with an index of no machine or with the same index twice."""
        seen = {}
        for i in tour:
            if i in seen or not self.has_machine(i):
                raise BadParameter()
            seen[i] = True

    def has_machine(self, i):
        """Whether i is the index of a machine; Python's own indices below 0 are none."""
        return 0 <= i < len(self.machines)

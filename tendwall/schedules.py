"""When the services of a tour start within a cycle.

A tour is a list of indices into the list of machines, its starts a list of as many times.
"""

from tendwall.tours import find_longest_own_time, find_way_on


def find_start_times(machines, tour):
    """The earliest start of each service of the tour, the first one at 0."""
    starts = []
    time = 0
    for k in range(len(tour)):
        starts.append(time)
        time = find_arrival(machines, tour, k, time)
    return starts


def find_arrival(machines, tour, k, start):
    """When the operator comes from the machine at place k, whose service begins at start, to the next one."""
    return start + machines[tour[k]].service_time + find_way_on(machines, tour, k)


def is_feasible(machines, cycle, tour, starts):
    """Whether the operator and each machine of the tour can keep to these starts in every cycle."""
    if find_longest_own_time(machines, tour) > cycle:
        return False
    starts_again = [start + cycle for start in starts]
    # Behind the last service of a cycle comes the first one of the next cycle.
    next_starts = starts[1:] + starts_again[:1]
    for k in range(len(tour)):
        if find_arrival(machines, tour, k, starts[k]) > next_starts[k]:
            return False
    return True

"""The times of tours, and the wall order and the best tour of a set of machines.

A tour or a set is a list of indices into the list of machines.
"""


def find_walking_time(machines, tour):
    """The distance walked along the tour and back to its first machine."""
    walked = 0
    for k in range(len(tour)):
        walked += find_way_on(machines, tour, k)
    return walked


def find_way_on(machines, tour, k):
    """The distance from the machine at place k of the tour to the next one; behind the last comes the first."""
    here = machines[tour[k]]
    there = machines[tour[(k + 1) % len(tour)]]
    return here.distance_to(there)


def find_service_sum(machines, members):
    """The sum of the members' service times."""
    return sum([machines[i].service_time for i in members])


def find_busy_time(machines, tour):
    """The time the operator is at work in one cycle of the tour."""
    return find_service_sum(machines, tour) + find_walking_time(machines, tour)


def find_longest_own_time(machines, members):
    """The longest time that one of the members needs by itself, 0 without members."""
    return max([machines[i].own_time() for i in members], default=0)


def find_cycle_time(machines, tour):
    """The cycle time of the tour."""
    return max(find_busy_time(machines, tour), find_longest_own_time(machines, tour))


def find_min_cycle_time(machines, members):
    """The minimum cycle time of a set, in its closed form."""
    if len(members) == 0:
        return 0
    positions = [machines[i].position for i in members]
    # No tour walks less than once along the whole stretch and back, and the wall order walks just that.
    least_walked = 2 * (max(positions) - min(positions))
    least_busy = find_service_sum(machines, members) + least_walked
    return max(least_busy, find_longest_own_time(machines, members))


def find_wall_order(machines, members):
    """The set in the order along the wall; machines at one position by ascending index."""
    placed = sorted([(machines[i].position, i) for i in members])
    return [pair[1] for pair in placed]


def find_best_tour(machines, members):
    """The lexicographically smallest of the set's permutations with the shortest cycle time."""
    shortest = find_min_cycle_time(machines, members)
    tour = sorted(members)
    # Some permutation has the minimum cycle time, so this ends, and the first one found is the smallest.
    while find_cycle_time(machines, tour) > shortest:
        tour = find_next_order(tour)
    return tour


def find_next_order(order):
    """The lexicographically next permutation of an order that is not yet the last one."""
    turn = len(order) - 2
    while order[turn] > order[turn + 1]:
        turn -= 1
    larger = min([i for i in order[turn + 1:] if i > order[turn]])
    rest = sorted([i for i in order[turn:] if i != larger])
    return order[:turn] + [larger] + rest

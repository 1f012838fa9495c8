"""Writes calls the way tendwall.shop.answers takes them, and takes its answers apart."""

from tendwall.shop import answers

LEAST = -2147483648
MOST = 2147483647


def create():
    return [0]


def add_machine(position, run_time, service_time):
    return [1, position, run_time, service_time]


def remove_machine(i):
    return [2, i]


def set_position(i, position):
    return [3, i, position]


def set_run_time(i, run_time):
    return [4, i, run_time]


def set_service_time(i, service_time):
    return [5, i, service_time]


def min_cycle_time():
    return [6]


def best_tour():
    return [7]


def cycle_time(tour):
    return [8, len(tour)] + list(tour)


def wall_order():
    return [9]


def start_times(tour):
    return [10, len(tour)] + list(tour)


def idle_time(i):
    return [11, i]


def utilization():
    return [12]


def largest_group(limit):
    return [13, limit]


def best_tour_of(mask):
    return [14, mask]


def check_schedule(cycle, tour, starts):
    return [15, cycle, len(tour)] + list(tour) + [len(starts)] + list(starts)


def min_cycle_time_if(i, run_time):
    return [16, i, run_time]


def list_machines():
    return [17]


def joined(calls):
    """The one list of whole numbers that a list of calls is handed in as."""
    return [number for call in calls for number in call]


def split(answered, count):
    """The answers to each of count calls, out of the one list that is given back."""
    found = []
    place = 0
    while place < len(answered):
        length = answered[place]
        found.append(answered[place + 1:place + 1 + length])
        if length < 1 or len(found[-1]) != length:
            raise AssertionError(f"the answers don't come apart: {answered}")
        place += 1 + length
    if len(found) != count:
        raise AssertionError(f"{len(found)} answers to {count} calls: {answered}")
    return found


def ask(*calls):
    """The answer to each of the calls, which make one request."""
    if not 1 <= len(calls) <= 60:
        raise AssertionError(f"a request has 1 to 60 calls, not {len(calls)}")
    return split(answers(joined(calls)), len(calls))


def built(machines):
    """The calls that make an instance with these machines (position, run_time, service_time)."""
    return [create()] + [add_machine(*machine) for machine in machines]


def ask_after(machines, *calls):
    """The answers to the calls behind those that make an instance with these machines."""
    ahead = built(machines)
    return ask(*ahead, *calls)[len(ahead):]


def listed(machines):
    """What list_machines is answered where an instance has these machines."""
    return [len(machines)] + [number for machine in machines for number in machine]


def in_requests(machines, calls):
    """The answers to as many calls as you like, each behind those that make an instance with these machines."""
    room = 60 - len(built(machines))
    return [answer for k in range(0, len(calls), room) for answer in ask_after(machines, *calls[k:k + room])]


def probes():
    """Calls whose answers tell all machines of an instance: each gives back the number it overwrites."""
    calls = []
    for i in range(6):
        calls += [set_position(i, 0), set_run_time(i, 0), set_service_time(i, 1)]
    return calls


def probed(machines):
    """What the probes are answered where an instance has these machines."""
    told = [[number] for machine in machines for number in machine]
    return told + [[-2]] * (18 - len(told))

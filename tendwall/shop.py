"""The calls on one object, read from one list of whole numbers and answered in one list."""

from tendwall.reading import Reader
from tendwall.refusals import NoInstance, Refusal
from tendwall.wall import Wall

CREATE = 0


def answer_create(wall, given):
    """create() -> 0"""
    return [0]


def answer_add_machine(wall, given):
    """add_machine(position, run_time, service_time) -> index"""
    return [wall.add_machine(given[0], given[1], given[2])]


def answer_remove_machine(wall, given):
    """remove_machine(i) -> count"""
    return [wall.remove_machine(given[0])]


def answer_set_position(wall, given):
    """set_position(i, position) -> old_position"""
    return [wall.set_position(given[0], given[1])]


def answer_set_run_time(wall, given):
    """set_run_time(i, run_time) -> old_run_time"""
    return [wall.set_run_time(given[0], given[1])]


def answer_set_service_time(wall, given):
    """set_service_time(i, service_time) -> old_service_time"""
    return [wall.set_service_time(given[0], given[1])]


def answer_min_cycle_time(wall, given):
    """min_cycle_time() -> time"""
    return [wall.min_cycle_time()]


def answer_best_tour(wall, given):
    """best_tour() -> time, machines..."""
    return [wall.min_cycle_time()] + wall.best_tour()


def answer_cycle_time(wall, given):
    """cycle_time(tour) -> time, busy_time, walking_time"""
    tour = given[0]
    return [wall.cycle_time(tour), wall.busy_time(tour), wall.walking_time(tour)]


def answer_wall_order(wall, given):
    """wall_order() -> time, machines..."""
    order = wall.wall_order()
    return [wall.cycle_time(order)] + order


def answer_start_times(wall, given):
    """start_times(tour) -> count, times..."""
    times = wall.start_times(given[0])
    return [len(times)] + times


def answer_idle_time(wall, given):
    """idle_time(i) -> time"""
    return [wall.idle_time(given[0])]


def answer_utilization(wall, given):
    """utilization() -> 0, fraction"""
    return [0] + wall.utilization()


def answer_largest_group(wall, given):
    """largest_group(limit) -> count, machines..."""
    members = wall.largest_group(given[0])
    return [len(members)] + members


def answer_best_tour_of(wall, given):
    """best_tour_of(mask) -> time, machines..."""
    tour = wall.best_tour_of(given[0])
    return [wall.cycle_time(tour)] + tour


def answer_check_schedule(wall, given):
    """check_schedule(cycle, tour, starts) -> feasible"""
    return [1 if wall.check_schedule(given[0], given[1], given[2]) else 0]


def answer_min_cycle_time_if(wall, given):
    """min_cycle_time_if(i, run_time) -> time"""
    return [wall.min_cycle_time_if(given[0], given[1])]


def answer_list_machines(wall, given):
    """list_machines() -> count, machines..."""
    answer = [len(wall.machines)]
    for machine in wall.machines:
        answer.extend([machine.position, machine.run_time, machine.service_time])
    return answer


# By a call's number: what answers it, how many whole numbers it has, and how many rows behind them.
CALLS = (
    (answer_create, 0, 0),
    (answer_add_machine, 3, 0),
    (answer_remove_machine, 1, 0),
    (answer_set_position, 2, 0),
    (answer_set_run_time, 2, 0),
    (answer_set_service_time, 2, 0),
    (answer_min_cycle_time, 0, 0),
    (answer_best_tour, 0, 0),
    (answer_cycle_time, 0, 1),
    (answer_wall_order, 0, 0),
    (answer_start_times, 0, 1),
    (answer_idle_time, 1, 0),
    (answer_utilization, 0, 0),
    (answer_largest_group, 1, 0),
    (answer_best_tour_of, 1, 0),
    (answer_check_schedule, 1, 2),
    (answer_min_cycle_time_if, 2, 0),
    (answer_list_machines, 0, 0),
)


def read_given(reader, number):
    """What the call of this number is given: its whole numbers, then its rows."""
    given = []
    for k in range(CALLS[number][1]):
        given.append(reader.take_number())
    for k in range(CALLS[number][2]):
        given.append(reader.take_row())
    return given


def answer_call(wall, number, given):
    """The numbers that one call is answered with; the wall is None as long as there is no instance."""
    answer = CALLS[number][0]
    try:
        if wall is None:
            raise NoInstance()
        return answer(wall, given)
    except Refusal as refusal:
        return [refusal.code]


def answers(calls):
    """The answers to all calls of the list, each with how many numbers it has before it."""
    reader = Reader(calls)
    wall = None
    answered = []
    while not reader.at_end():
        number = reader.take_number()
        given = read_given(reader, number)
        if number == CREATE:
            wall = Wall()
        answer = answer_call(wall, number, given)
        answered.append(len(answer))
        answered.extend(answer)
    return answered

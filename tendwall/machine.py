"""A machine along the wall, and the ranges that its numbers keep to."""

from tendwall.refusals import BadParameter

MOST_POSITION = 99
MOST_RUN_TIME = 99
LEAST_SERVICE_TIME = 1
MOST_SERVICE_TIME = 99


class Machine:
    """One machine: where it stands, how long it runs, how long its service takes."""

    def __init__(self, position, run_time, service_time):
        self.position = position
        self.run_time = run_time
        self.service_time = service_time

    def own_time(self):
        """The time from one service of this machine to the next that it needs by itself."""
        return self.run_time + self.service_time

    def distance_to(self, other):
        """How far the operator walks from this machine to another one."""
        return abs(self.position - other.position)


def check_position(position):
    """Refuse a position that is out of range."""
    check_range(position, 0, MOST_POSITION)


def check_run_time(run_time):
    """Refuse a run time that is out of range."""
    check_range(run_time, 0, MOST_RUN_TIME)


def check_service_time(service_time):
    """Refuse a service time that is out of range."""
    check_range(service_time, LEAST_SERVICE_TIME, MOST_SERVICE_TIME)


def check_range(number, least, most):
    """Refuse a number that is below the least or above the most."""
    if number < least or number > most:
        raise BadParameter()

"""Sets of machines by their bitmasks, and the largest set that one operator can tend within a limit."""

from tendwall.tours import find_min_cycle_time


def count_masks(machines):
    """How many sets of the machines there are; their bitmasks are the numbers from 0 up to below this."""
    return 1 << len(machines)


def find_members(mask):
    """The indices in the set of this bitmask, ascending."""
    return [i for i in range(mask.bit_length()) if (mask >> i) & 1 == 1]


def find_largest_group(machines, limit):
    """The largest set with a minimum cycle time within a limit of at least 0, of several the smallest bitmask's."""
    # The empty set has the cycle time 0, so it is within every limit.
    largest = []
    for mask in range(count_masks(machines)):
        members = find_members(mask)
        # Bitmasks come ascending, so a later set has to be larger, not just as large.
        if len(members) > len(largest) and find_min_cycle_time(machines, members) <= limit:
            largest = members
    return largest

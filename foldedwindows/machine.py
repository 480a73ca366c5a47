"""A machine: states that say how the bytes of a text are coloured.

A state is a tuple: its end, and a list of its arms. An arm is a tuple: from, to, colour, next.
"""

MOST_STATES = 6
MOST_ARMS = 6
MOST_BYTE = 255
MOST_COLOUR = 7


def read_states(numbers):
    """The states that a list of whole numbers writes one behind another."""
    states = []
    at = 0
    while at < len(numbers):
        after = at + 2 + 4 * numbers[at + 1]
        arms = [tuple(numbers[begin:begin + 4]) for begin in range(at + 2, after, 4)]
        states.append((numbers[at], arms))
        at = after
    return states


def states_allowed(states):
    """If the states are a machine."""
    if not 1 <= len(states) <= MOST_STATES:
        return False
    return all([state_allowed(end, arms, len(states)) for end, arms in states])


def state_allowed(end, arms, state_count):
    """If a state may be one of so many."""
    if end >= state_count or len(arms) > MOST_ARMS:
        return False
    return all([arm_allowed(arm, state_count) for arm in arms])


def arm_allowed(arm, state_count):
    """If an arm may be one of a machine of so many states."""
    return arm[0] <= arm[1] <= MOST_BYTE and arm[2] <= MOST_COLOUR and arm[3] < state_count

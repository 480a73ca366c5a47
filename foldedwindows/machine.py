"""A machine: states that say how the bytes of a text are coloured.

A state is a tuple: its end, and a list of its arms. An arm is a tuple: from, to, colour, next.
"""

MOST_STATES = 6
MOST_ARMS = 6
MOST_BYTE = 255
MOST_COLOUR = 7


def read_states(numbers):
    """The states that a list of whole numbers writes one behind another."""
    states = []
    at = 0
    while at < len(numbers):
        after = at + 2 + 4 * numbers[at + 1]
        arms = [tuple(numbers[begin:begin + 4]) for begin in range(at + 2, after, 4)]
        states.append((numbers[at], arms))
        at = after
    return states


def states_allowed(states):
    """If the states are a machine."""
    if not 1 <= len(states) <= MOST_STATES:
        return False
    return all([state_allowed(end, arms, len(states)) for end, arms in states])


def state_allowed(end, arms, state_count):
    """If a state may be one of so many."""
    if end >= state_count or len(arms) > MOST_ARMS:
        return False
    return all([arm_allowed(arm, state_count) for arm in arms])


def arm_allowed(arm, state_count):
    """If an arm may be one of a machine of so many states."""
    return arm[0] <= arm[1] <= MOST_BYTE and arm[2] <= MOST_COLOUR and arm[3] < state_count


def text_colours(states, lines):
    """The colours of the bytes of all lines, as colouring from the beginning gives them."""
    if len(states) == 0:
        return [[0] * len(line) for line in lines]
    colours = []
    state = 0
    for line in lines:
        line_colours = []
        for byte in line:
            step = colour_and_next(states, state, byte)
            line_colours.append(step[0])
            state = step[1]
        colours.append(line_colours)
        state = states[state][0]
    return colours


def colour_and_next(states, state, byte):
    """The colour of a byte in a state, and the state behind it."""
    for arm in states[state][1]:
        if arm[0] <= byte <= arm[1]:
            return (arm[2], arm[3])
    return (0, state)

"""The form of machines, and what actions do to counters."""

MOST_STATES = 6
MOST_COUNTERS = 3
MOST_LETTERS = 4
MOST_STEPS = 100


def fault(machine):
    """None if the machine has the form of a machine, otherwise the word for its first fault."""
    states, counters, letters, steps, firsts, lasts = machine
    if not 1 <= states <= MOST_STATES:
        return "states"
    if not 0 <= counters <= MOST_COUNTERS:
        return "counters"
    if not 1 <= letters <= MOST_LETTERS:
        return "letters"
    if len(steps) > MOST_STEPS or not all([is_step(machine, step) for step in steps]):
        return "steps"
    if not _are_distinct_states(states, firsts):
        return "firsts"
    if not _are_distinct_states(states, lasts):
        return "lasts"
    return None


def is_step(machine, step):
    """Whether the step has the form of a step of the machine."""
    states, counters, letters, _, _, _ = machine
    if len(step) != 4:
        return False
    letter, before, after, action = step
    if not 0 <= letter < letters:
        return False
    return 0 <= before < states and 0 <= after < states and 0 <= action <= 2 * counters


def _are_distinct_states(states, members):
    """Whether the members are states, none of them twice."""
    if len(set(members)) != len(members):
        return False
    return all([0 <= state < states for state in members])


def applied(action, counters):
    """The counters after the action."""
    return tuple([_value_after(action, counter, value) for counter, value in enumerate(counters, start=1)])


def _value_after(action, counter, value):
    """The value of the counter with this number after the action."""
    if action == 2 * counter - 1:
        return value + 1
    # Action 2 * counter resets this counter, and the greater ones are those of counters above it.
    if action >= 2 * counter:
        return 0
    return value

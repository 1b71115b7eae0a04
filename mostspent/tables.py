"""Values, which say what runs from one state to another can do at best, and tables of them."""

GROWS = "grows"


def is_action(value):
    """Whether the value is an action."""
    return value is not None and value != GROWS


def best(values):
    """The best of the values, None if there are none."""
    actions = [value for value in values if is_action(value)]
    if actions:
        return min(actions, key=_rank)
    return GROWS if GROWS in values else None


def _rank(action):
    """A number for the action that is smaller for better actions."""
    return action if action % 2 == 1 else -action


def along(first, second):
    """The two values in sequence."""
    if first is None or second is None:
        return None
    if first == GROWS or second == GROWS:
        return GROWS
    return max(first, second)


def letter_table(machine, letter):
    """The table of the letter."""
    states, _, _, steps, _, _ = machine
    actions = {}
    for read, before, after, action in steps:
        if read == letter:
            actions.setdefault((before, after), []).append(action)
    return tuple([
        tuple([best(actions.get((before, after), [])) for after in range(states)])
        for before in range(states)
    ])


def in_sequence(first, second):
    """The table of the two tables in sequence."""
    return tuple([row_in_sequence(row, second) for row in first])


def row_in_sequence(row, table):
    """The row that the table of a row gets in sequence with another table: the other rows do not matter."""
    return tuple([best([along(value, onward) for value, onward in zip(row, column)]) for column in zip(*table)])


def is_stable(table):
    """Whether the table is the same as itself in sequence with itself."""
    return in_sequence(table, table) == table


def repeated(table):
    """The stable table repeated."""
    return in_sequence(then_staying(table), table)


def then_staying(table):
    """The stable table whose values are each in sequence with staying at the state that they lead to."""
    stays = [_staying(row[state]) for state, row in enumerate(table)]
    return tuple([tuple([along(value, stay) for value, stay in zip(row, stays)]) for row in table])


def _staying(value):
    """What staying at a state can do at best, for the value from this state to itself."""
    return GROWS if is_action(value) and value % 2 == 1 else value


def best_value(machine, table):
    """The best of the table's values from a first state to a last one."""
    _, _, _, _, firsts, lasts = machine
    return best([table[first][last] for first in firsts for last in lasts])


def grows(machine, table):
    """Whether the table's best value grows."""
    return best_value(machine, table) == GROWS

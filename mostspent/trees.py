"""Trees, which put words together step by step, and the cheap runs that they show."""

from mostspent.tables import along, best, in_sequence, is_action, is_stable, letter_table, repeated, then_staying

MOST_LETTERS_IN_WORD = 200


def judge_tree(machine, tree, threshold):
    """The tuple (word, table, height) of the tree, or None if it has nothing."""
    judged = _judged_lines(machine, tree, threshold)
    return judged[-1] if judged else None


def _judged_lines(machine, tree, threshold):
    """The tuples (word, table, height) of all lines; an empty list if a line has nothing."""
    judged = []
    for line in tree:
        found = _judged_line(machine, line, judged, threshold)
        if found is None or len(found[0]) > MOST_LETTERS_IN_WORD:
            return []
        judged.append(found)
    return judged


def _judged_line(machine, line, judged, threshold):
    """What the line has, however long its word, given what the earlier lines have; None if it has nothing."""
    if line[0] == "letter":
        return _judged_letter(machine, line[1])
    if line[0] == "both":
        return _judged_both(judged[line[1]], judged[line[2]])
    return _judged_row([judged[number] for number in line[1]], threshold)


def _judged_letter(machine, letter):
    """What the line of a letter has."""
    if not 0 <= letter < machine[2]:
        return None
    return ([letter], letter_table(machine, letter), 0)


def _judged_both(first, second):
    """What a line of two others has, given what these have."""
    return (first[0] + second[0], in_sequence(first[1], second[1]), max(first[2], second[2]) + 1)


def _judged_row(parts, threshold):
    """What a row has, given what its lines have."""
    if not parts:
        return None
    table = parts[0][1]
    if not is_stable(table) or any([part[1] != table for part in parts]):
        return None
    word = [letter for part in parts for letter in part[0]]
    height = max([part[2] for part in parts]) + 1
    return (word, repeated(table) if len(parts) > threshold else table, height)


def tree_run(machine, tree, threshold, before, after):
    """The tuple (action, step numbers) of the tree's run from the one state to the other, or None."""
    tables = [table for _, table, _ in _judged_lines(machine, tree, threshold)]
    if not tables or not 0 <= before < machine[0] or not 0 <= after < machine[0]:
        return None
    action = tables[-1][before][after]
    if not is_action(action):
        return None
    return (action, _step_numbers(machine, tree, threshold, tables, before, after))


def _step_numbers(machine, tree, threshold, tables, first, last):
    """The step numbers of the tree's run from the first state to the last one."""
    numbers = []
    # The parts (line number, state before, state after) that are still to be run over, the next one last.
    # A tree may be too deep for recursion.
    waiting = [(len(tree) - 1, first, last)]
    while waiting:
        number, before, after = waiting.pop()
        line = tree[number]
        if line[0] == "letter":
            numbers.append(machine[3].index((line[1], before, after, tables[number][before][after])))
        else:
            waiting.extend(_parts(line, threshold, tables, before, after)[::-1])
    return tuple(numbers)


def _parts(line, threshold, tables, before, after):
    """The parts of which the run over a line that is not a letter consists, in order."""
    if line[0] == "both":
        middle = _middle(tables[line[1]], tables[line[2]], before, after)
        return [(line[1], before, middle), (line[2], middle, after)]
    table = tables[line[1][0]]
    if len(line[1]) > max(threshold, 1):
        return _parts_that_stay(line[1], table, before, after)
    return _parts_one_by_one(line[1], table, before, after)


def _parts_one_by_one(numbers, table, before, after):
    """The parts of a row that is at most as long as the threshold, or of one line."""
    parts = []
    state = before
    for number in numbers[:-1]:
        middle = _middle(table, table, state, after)
        parts.append((number, state, middle))
        state = middle
    parts.append((numbers[-1], state, after))
    return parts


def _parts_that_stay(numbers, table, before, after):
    """The parts of a row of several lines that is longer than the threshold."""
    stay = _middle(then_staying(table), table, before, after)
    between = [(number, stay, stay) for number in numbers[1:-1]]
    return [(numbers[0], before, stay)] + between + [(numbers[-1], stay, after)]


def _middle(first, second, before, after):
    """The smallest state by way of which the tables in sequence have their value from the one state to the other."""
    values = [along(value, row[after]) for value, row in zip(first[before], second)]
    return values.index(best(values))

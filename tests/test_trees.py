"""Points 22 and 23: what trees have, and the runs that they show."""

import random
import unittest

from mostspent.tables import repeated
from mostspent.trees import judge_tree, tree_run
from tests import plain
from tests.listing import run_cost
from tests.test_costs import within_seconds

GROWS = "grows"
ACTIONS = (0, 1, 2, 3, 4, 5, 6)

# Letter 0 leads from state 0 to state 1 for free and back at a price, letter 1 stays at state 0 at a price.
MACHINE = (2, 1, 2, ((0, 0, 1, 0), (0, 1, 0, 1), (1, 0, 0, 1)), (0,), (0,))
ZERO = ((None, 0), (1, None))
ONE = ((1, None), (None, None))

# Letters 0 and 1 have the same table, which is stable; letter 2 has another one, which is stable too.
TWINS = (
    2, 1, 3,
    ((0, 0, 0, 2), (0, 0, 1, 2), (0, 1, 1, 1), (1, 1, 1, 1), (1, 0, 1, 2), (1, 0, 0, 2), (2, 0, 0, 2)),
    (0,), (1,),
)
TWIN = ((2, 2), (None, 1))


def plain_lines(machine, tree, threshold):
    """What the lines have, as point 22 says it: a list of tuples (word, table, height), or None."""
    found = []
    for word, *named in tree:
        if word == "letter":
            has = ([named[0]], plain.of_letter(machine, named[0]), 0) if named[0] < machine[2] else None
        elif word == "both":
            one, other = found[named[0]], found[named[1]]
            has = (one[0] + other[0], plain.sequence(one[1], other[1]), 1 + max(one[2], other[2]))
        else:
            has = plain_row([found[number] for number in named[0]], threshold)
        if has is None or len(has[0]) > 200:
            return None
        found.append(has)
    return found


def plain_row(parts, threshold):
    """What a row of these lines has, or None."""
    tables = {part[1] for part in parts}
    if len(tables) != 1:
        return None
    table = tables.pop()
    if plain.sequence(table, table) != table:
        return None
    word = sum([part[0] for part in parts], [])
    return (word, plain.again(table) if len(parts) > threshold else table, 1 + max(part[2] for part in parts))


def plain_run(machine, tree, threshold, number, before, after):
    """The step numbers of the run over the line with this number, read as point 23 says it."""
    lines = plain_lines(machine, tree, threshold)
    word, *named = tree[number]
    value = lines[number][1][before][after]
    states = range(machine[0])

    def part(at, start, end):
        return plain_run(machine, tree[:number], threshold, at, start, end)

    if word == "letter":
        return [at for at, step in enumerate(machine[3]) if step == (named[0], before, after, value)][:1]
    if word == "both":
        one, other = (lines[at][1] for at in named)
        k = [k for k in states if plain.along(one[before][k], other[k][after]) == value][0]
        return part(named[0], before, k) + part(named[1], k, after)
    row = named[0]
    if len(row) == 1:
        return part(row[0], before, after)
    table = lines[row[0]][1]
    if len(row) <= threshold:
        k = [k for k in states if plain.along(table[before][k], table[k][after]) == table[before][after]][0]
        rest = tree[:number] + (("row", row[1:]),)
        return part(row[0], before, k) + plain_run(machine, rest, threshold, number, k, after)
    stay = [table[k][k] if table[k][k] in (0, 2, 4, 6, None) else GROWS for k in states]
    k = [k for k in states if plain.along(table[before][k], stay[k], table[k][after]) == value][0]
    between = [at for middle in row[1:-1] for at in part(middle, k, k)]
    return part(row[0], before, k) + between + part(row[-1], k, after)


def random_tree(source, machine, threshold, many):
    """A tree of at most this many lines that has something, in which rows are frequent."""
    tree = []
    lines = []
    while len(tree) < many:
        line = ("letter", source.randrange(machine[2]))
        if tree and source.randint(0, 2) > 0:
            at = source.randrange(len(tree))
            same = [other for other in range(len(tree)) if lines[other][1] == lines[at][1]]
            row = [source.choice(same) for _ in range(source.choice((1, 2, 3, threshold, threshold + 1, 7)))]
            line = source.choice((("both", at, source.randrange(len(tree))), ("row", tuple(row)), ("row", tuple(row))))
        longer = plain_lines(machine, tuple(tree) + (line,), threshold)
        if longer is not None:
            tree.append(line)
            lines = longer
        elif source.randint(0, 5) == 0:
            break
    return tuple(tree)


def random_trees(seed, many, most_lines=9):
    """Machines, trees that have something, and thresholds."""
    source = random.Random(seed)
    found = []
    for _ in range(many):
        machine = plain.random_machine(source, 3, 2, 2, 9)
        threshold = source.choice((1, 2, 2, 3, 4))
        found.append((machine, random_tree(source, machine, threshold, source.randint(1, most_lines)), threshold))
    return [case for case in found if case[1]]


class Judged(unittest.TestCase):
    def check(self, machine, tree, threshold, expected):
        with self.subTest(tree=tree, threshold=threshold):
            self.assertEqual(judge_tree(machine, tree, threshold), expected)

    def check_nothing(self, machine, tree, threshold=2):
        """The tree has nothing, and neither has it with more lines behind."""
        for more in ((), (("letter", 0),)):
            self.check(machine, tree + more, threshold, None)
            for before in range(machine[0]):
                for after in range(machine[0]):
                    self.assertIsNone(tree_run(machine, tree + more, threshold, before, after))


class Lines(Judged):
    def test_letters(self):
        self.check(MACHINE, (("letter", 0),), 1, ([0], ZERO, 0))
        self.check(MACHINE, (("letter", 1),), 100, ([1], ONE, 0))
        self.check(MACHINE, (("letter", 1), ("letter", 0)), 2, ([0], ZERO, 0))

    def test_a_letter_that_the_machine_does_not_have(self):
        for letters in (1, 2, 3, 4):
            machine = (1, 0, letters, (), (0,), (0,))
            for letter in range(letters):
                self.check(machine, (("letter", letter),), 2, ([letter], ((None,),), 0))
            for letter in range(letters, 6):
                self.check_nothing(machine, (("letter", letter),))
                self.check_nothing(machine, (("letter", 0), ("letter", letter), ("both", 0, 0)))

    def test_both(self):
        tree = (("letter", 0), ("letter", 1), ("both", 0, 1), ("both", 1, 0), ("both", 2, 3), ("both", 4, 0))
        self.check(MACHINE, tree[:3], 2, ([0, 1], ((None, None), (1, None)), 1))
        self.check(MACHINE, tree[:4], 2, ([1, 0], ((None, 1), (None, None)), 1))
        self.check(MACHINE, tree[:5], 2, ([0, 1, 1, 0], ((None, None), (None, 1)), 2))
        self.check(MACHINE, tree, 2, ([0, 1, 1, 0, 0], ((None, None), (1, None)), 3))
        self.check(MACHINE, (("letter", 0), ("both", 0, 0)), 2, ([0, 0], ((1, None), (None, 1)), 1))

    def test_the_height_is_that_of_the_higher_line_plus_one(self):
        low = (("letter", 1), ("row", (0,)), ("row", (1,)), ("letter", 1))
        for named, height in (((2, 3), 3), ((3, 2), 3), ((3, 3), 1), ((1, 2), 3), ((2, 1), 3), ((1, 3), 2)):
            self.check(MACHINE, low + (("both", *named),), 2, ([1, 1], ONE, height))
            self.check(MACHINE, low + (("row", named),), 2, ([1, 1], ONE, height))
        self.check(MACHINE, low + (("row", (3, 2, 3, 1)),), 9, ([1] * 4, ONE, 3))


class Rows(Judged):
    def test_a_row_without_lines(self):
        self.check_nothing(MACHINE, (("row", ()),))
        self.check_nothing(MACHINE, (("letter", 0), ("row", ())))

    def test_a_row_of_one_line(self):
        for threshold in (1, 2, 100):
            self.check(MACHINE, (("letter", 1), ("row", (0,))), threshold, ([1], ONE, 1))
        # Its table has to be stable, too.
        self.check_nothing(MACHINE, (("letter", 0), ("row", (0,))))

    def test_lines_of_different_tables(self):
        self.check_nothing(TWINS, (("letter", 0), ("letter", 2), ("row", (0, 1))))
        self.check_nothing(TWINS, (("letter", 0), ("letter", 2), ("row", (1, 0))))
        self.check_nothing(TWINS, (("letter", 0), ("letter", 2), ("row", (0, 0, 0, 1))), 100)
        self.check_nothing(MACHINE, (("letter", 0), ("letter", 1), ("row", (1, 0))))

    def test_different_lines_of_the_same_table(self):
        tree = (("letter", 0), ("letter", 1), ("row", (0, 1)))
        self.check(TWINS, tree, 2, ([0, 1], TWIN, 1))
        self.check(TWINS, tree[:2] + (("row", (1, 0, 0)),), 3, ([1, 0, 0], TWIN, 1))

    def test_a_common_table_that_is_not_stable(self):
        for row in ((0,), (0, 0), (0, 0, 0)):
            self.check_nothing(MACHINE, (("letter", 0), ("row", row)))
        self.check(MACHINE, (("letter", 0), ("both", 0, 0), ("row", (1, 1))), 2, ([0] * 4, ((1, None), (None, 1)), 2))

    def test_the_threshold(self):
        grown = ((GROWS, None), (None, None))
        for threshold in (1, 2, 3, 4, 50, 100):
            for many in (1, 2, 3, 4, 5, 49, 50, 51, 99, 100, 101, 200):
                table = ONE if many <= threshold else grown
                self.check(MACHINE, (("letter", 1), ("row", (0,) * many)), threshold, ([1] * many, table, 1))

    def test_the_same_line_several_times_counts_each_time(self):
        tree = (("letter", 0), ("letter", 1), ("row", (0, 1, 0, 0)))
        self.check(TWINS, tree, 4, ([0, 1, 0, 0], TWIN, 1))
        self.check(TWINS, tree, 3, ([0, 1, 0, 0], ((2, 2), (None, GROWS)), 1))

    def test_rows_of_rows(self):
        machine = (1, 1, 1, ((0, 0, 0, 2),), (0,), (0,))
        tree = (("letter", 0), ("row", (0, 0, 0)), ("row", (1, 0, 1)), ("row", (2, 1)))
        for threshold in (1, 2, 3):
            self.check(machine, tree, threshold, ([0] * 10, ((2,),), 3))
        # Repeated, the table is another one, so that the row below has lines of different tables.
        self.check_nothing(MACHINE, (("letter", 1), ("row", (0, 0)), ("row", (0, 1))), 1)
        self.check(MACHINE, (("letter", 1), ("row", (0, 0)), ("row", (0, 1))), 2, ([1] * 3, ONE, 2))

    def test_a_repeated_table_that_is_repeated(self):
        grown = ((GROWS, None), (None, None))
        self.check(MACHINE, (("letter", 1), ("row", (0, 0, 0)), ("row", (1, 1, 1))), 2, ([1] * 9, grown, 2))


class Lengths(Judged):
    def doubled(self, many, letter=1):
        """Lines whose words have 1, 2, 4, .. letters."""
        return (("letter", letter),) + tuple(("both", at, at) for at in range(many))

    def test_200_letters_and_201(self):
        tree = self.doubled(7) + (("both", 7, 6), ("both", 8, 3))
        self.check(MACHINE, tree, 2, ([1] * 200, ONE, 9))
        self.check_nothing(MACHINE, tree + (("both", 9, 0),))
        self.check_nothing(MACHINE, tree + (("both", 0, 9),))
        self.check(MACHINE, tree + (("row", (9,)),), 2, ([1] * 200, ONE, 10))
        self.check_nothing(MACHINE, tree + (("row", (9, 0)),))
        self.check(MACHINE, (("letter", 1), ("row", (0,) * 200)), 100, ([1] * 200, ((GROWS, None), (None, None)), 1))
        self.check_nothing(MACHINE, (("letter", 1), ("row", (0,) * 201)), 100)
        self.check_nothing(MACHINE, self.doubled(8))

    def test_long_rows(self):
        tree = (("letter", 1), ("both", 0, 0), ("both", 1, 0), ("row", (1, 2) * 40))
        self.check(MACHINE, tree, 100, ([1] * 200, ONE, 3))
        self.check_nothing(MACHINE, tree[:3] + (("row", (1, 2) * 40 + (0,)),), 100)
        self.check_nothing(MACHINE, self.doubled(7) + (("row", (7,) * 1000),), 100)


class Nothing(Judged):
    def test_a_line_that_the_last_one_does_not_need(self):
        for bad in (("letter", 2), ("row", ()), ("row", (0,)), ("row", (1, 0))):
            self.check_nothing(MACHINE, (("letter", 0), ("letter", 1), bad, ("row", (1, 1))))
        self.check_nothing(MACHINE, (("letter", 1),) + tuple(("both", at, at) for at in range(8)) + (("letter", 0),))

    def test_a_line_that_names_a_line_with_nothing(self):
        for bad in (("letter", 3), ("row", ())):
            for line in (("both", 0, 1), ("both", 1, 0), ("both", 1, 1), ("row", (1,)), ("row", (0, 1))):
                self.check_nothing(MACHINE, (("letter", 1), bad, line))

    def test_no_runs_is_not_nothing(self):
        machine = (1, 1, 1, (), (0,), (0,))
        self.check(machine, (("letter", 0), ("row", (0, 0)), ("both", 0, 1)), 1, ([0] * 3, ((None,),), 2))
        self.assertIsNone(tree_run(machine, (("letter", 0),), 2, 0, 0))


class Limits(Judged):
    def test_200_lines_and_more(self):
        for many in (199, 200, 300, 2000):
            tree = (("letter", 1),) + tuple(("row", (at,)) for at in range(many))
            with within_seconds(20):
                self.check(MACHINE, tree, 2, ([1], ONE, many))
                self.assertEqual(tree_run(MACHINE, tree, 2, 0, 0), (1, (2,)))
        tree = (("letter", 1),) + tuple(("both", at, 0) for at in range(199))
        with within_seconds(20):
            self.check(MACHINE, tree, 2, ([1] * 200, ONE, 199))
            self.assertEqual(tree_run(MACHINE, tree, 2, 0, 0), (1, (2,) * 200))

    def test_somewhat_beyond_the_limits(self):
        self.check(MACHINE, (), 2, None)
        self.assertIsNone(tree_run(MACHINE, (), 2, 0, 0))
        self.check(MACHINE, (("letter", 1), ("row", (0,) * 150)), 150, ([1] * 150, ONE, 1))
        # A threshold of 0 is below its limit: even one line is longer.
        tree = (("letter", 2), ("row", (0,)))
        self.check(TWINS, tree, 0, ([2], ((2, None), (None, None)), 1))
        self.assertEqual(tree_run(TWINS, tree, 0, 0, 0), (2, (6,)))
        self.check(MACHINE, (("letter", 1), ("row", (0,))), 0, ([1], ((GROWS, None), (None, None)), 1))
        self.check_nothing(MACHINE, (("letter", -1),))
        for before, after in ((0, 2), (2, 0), (-1, 0), (0, -1), (-2, 1), (5, 5)):
            self.assertIsNone(tree_run(MACHINE, (("letter", 0),), 2, before, after))
            self.assertIsNone(tree_run(TWINS, (("letter", 0),), 2, before, after))

    def test_large_machines(self):
        source = random.Random(50)
        for _ in range(20):
            machine = plain.random_machine(source, 6, 3, 4, 100)
            tree = random_tree(source, machine, 2, 12)
            while len(tree) < 200:
                tree += (("letter", source.randrange(machine[2])),)
            with within_seconds(20):
                self.assertIsNotNone(judge_tree(machine, tree, 2))
                tree_run(machine, tree, 2, 0, 0)


class Kinds(unittest.TestCase):
    def test_the_kinds_of_values_and_a_new_list_each_time(self):
        for tree in ((("letter", 0),), (("letter", 0), ("both", 0, 0)), (("letter", 0), ("row", (0,)))):
            found = judge_tree(TWINS, tree, 2)
            self.assertIs(type(found), tuple)
            self.assertEqual([type(part) for part in found], [list, tuple, int])
            word = list(found[0])
            found[0].append(9)
            self.assertEqual(judge_tree(TWINS, tree, 2)[0], word)
            run = tree_run(TWINS, tree, 2, 0, 0)
            self.assertIs(type(run), tuple)
            self.assertEqual([type(part) for part in run], [int, tuple])

    def test_a_row_of_one_line_is_a_list_of_its_own(self):
        found = judge_tree(MACHINE, (("letter", 1), ("row", (0,)), ("row", (0, 0)), ("row", (1,))), 3)
        self.assertEqual(found, ([1], ONE, 2))


class Runs(unittest.TestCase):
    def check(self, machine, tree, threshold, ends, expected):
        with self.subTest(tree=tree, threshold=threshold, ends=ends):
            self.assertEqual(tree_run(machine, tree, threshold, *ends), expected)

    def test_a_letter(self):
        for ends, expected in (((0, 1), (0, (0,))), ((1, 0), (1, (1,))), ((0, 0), None), ((1, 1), None)):
            self.check(MACHINE, (("letter", 0),), 2, ends, expected)
        self.check(MACHINE, (("letter", 1),), 2, (0, 0), (1, (2,)))

    def test_the_first_of_several_steps_with_the_action(self):
        steps = ((1, 0, 0, 2), (0, 0, 1, 2), (0, 0, 0, 1), (0, 0, 0, 0), (0, 0, 0, 2), (0, 0, 0, 0), (0, 0, 0, 2))
        self.check((2, 1, 2, steps, (), ()), (("letter", 0),), 2, (0, 0), (2, (4,)))
        self.check((2, 1, 2, steps[:4], (), ()), (("letter", 0),), 2, (0, 0), (0, (3,)))
        self.check((2, 1, 2, steps[:3], (), ()), (("letter", 0),), 2, (0, 0), (1, (2,)))
        self.check((2, 1, 2, steps[3:4] + steps[5:], (), ()), (("letter", 0),), 2, (0, 0), (2, (2,)))

    def test_both_by_way_of_the_smallest_state(self):
        # By way of states 1, 2 and 3 the greater action is 3; by way of state 0 it is 5.
        steps = (
            (0, 0, 3, 3), (0, 0, 2, 3), (0, 0, 1, 1), (0, 0, 0, 5),
            (1, 0, 0, 0), (1, 1, 0, 3), (1, 2, 0, 0), (1, 3, 0, 3),
        )
        tree = (("letter", 0), ("letter", 1), ("both", 0, 1))
        self.check((4, 3, 2, steps, (), ()), tree, 2, (0, 0), (3, (2, 5)))
        self.check((4, 3, 2, steps[:2] + steps[4:], (), ()), tree, 2, (0, 0), (3, (1, 4)))
        self.check((4, 3, 2, steps[:1] + steps[4:], (), ()), tree, 2, (0, 0), (3, (0, 4)))
        # An even action is better, whatever the state.
        self.check((4, 3, 2, steps + ((0, 0, 3, 4),), (), ()), tree, 2, (0, 0), (4, (8, 7)))

    def test_both_by_way_of_the_smallest_state_although_another_is_cheaper(self):
        # By way of either state the greater action is 2, by way of state 1 no counter is increased.
        steps = ((0, 0, 0, 1), (0, 0, 1, 0), (1, 0, 0, 2), (1, 1, 0, 2))
        tree = (("letter", 0), ("letter", 1), ("both", 0, 1))
        self.check((2, 1, 2, steps, (), ()), tree, 2, (0, 0), (2, (0, 2)))

    def test_a_row_of_one_line(self):
        tree = (("letter", 0), ("row", (0,)), ("row", (1,)))
        self.check(TWINS, tree, 1, (0, 0), (2, (0,)))
        self.check(TWINS, tree, 1, (0, 1), (2, (1,)))
        self.check(TWINS, tree, 100, (1, 1), (1, (2,)))
        self.check(TWINS, tree, 1, (1, 0), None)

    def test_a_row_of_at_most_as_many_lines_as_the_threshold(self):
        tree = (("letter", 0), ("letter", 1), ("row", (0, 1, 1, 0)))
        # State 0 is smaller than state 1, so that the run is there as long as it can.
        self.check(TWINS, tree, 4, (0, 1), (2, (0, 5, 5, 1)))
        self.check(TWINS, tree, 4, (1, 1), (1, (2, 3, 3, 2)))
        self.check(TWINS, tree, 4, (0, 0), (2, (0, 5, 5, 0)))

    def test_a_row_whose_value_from_the_state_between_is_that_of_the_table(self):
        # From state 0 to state 1 with 4, by way of state 2; on from state 2 only the steps with 0 are taken.
        steps = ((0, 0, 1, 4), (0, 2, 1, 1), (0, 2, 2, 1), (0, 0, 2, 4), (0, 2, 2, 0), (0, 2, 1, 0), (0, 0, 2, 3))
        machine = (3, 2, 1, steps, (0,), (1,))
        tree = (("letter", 0), ("row", (0, 0, 0, 0)))
        for threshold in (4, 100):
            self.assertEqual(judge_tree(machine, tree, threshold)[1], ((None, 4, 4), (None, None, None), (None, 0, 0)))
            self.check(machine, tree, threshold, (0, 1), (4, (3, 4, 4, 5)))
            self.check(machine, tree, threshold, (0, 2), (4, (3, 4, 4, 4)))
            self.check(machine, tree, threshold, (2, 1), (0, (4, 4, 4, 5)))

    def test_a_longer_row_stays_at_one_state(self):
        # State 1 is the only one at which one can stay for free.
        steps = (
            (0, 0, 1, 1), (0, 1, 1, 0), (0, 1, 2, 1), (0, 0, 2, 1),
            (1, 0, 1, 1), (1, 1, 2, 1), (1, 1, 1, 0), (1, 0, 2, 1),
        )
        machine = (3, 1, 2, steps, (0,), (2,))
        tree = (("letter", 0), ("letter", 1), ("row", (0, 1, 1, 0)))
        self.assertEqual(judge_tree(machine, tree, 2)[1], ((None, 1, 1), (None, 0, 1), (None, None, None)))
        self.check(machine, tree, 2, (0, 2), (1, (0, 6, 6, 2)))
        self.check(machine, tree, 2, (0, 1), (1, (0, 6, 6, 1)))
        self.check(machine, tree, 2, (1, 1), (0, (1, 6, 6, 1)))
        self.check(machine, tree, 2, (2, 2), None)
        self.check(machine, tree[:2] + (("row", (1, 0)),), 1, (0, 2), (1, (4, 2)))

    def test_a_longer_row_stays_at_the_smallest_state(self):
        # One can stay at both states for free, and both lead everywhere for free.
        free = tuple((0, before, after, 0) for before in (1, 0) for after in (1, 0))
        machine = (2, 0, 1, free, (0,), (0,))
        tree = (("letter", 0), ("row", (0,) * 5))
        for threshold in (1, 4):
            self.check(machine, tree, threshold, (1, 1), (0, (1, 3, 3, 3, 2)))
        # At state 0 one cannot stay, as its way to itself is increased.
        steps = ((0, 0, 0, 3), (0, 0, 1, 3), (0, 1, 0, 3), (0, 1, 1, 2))
        machine = (2, 2, 1, steps, (0,), (0,))
        self.check(machine, tree, 4, (0, 0), (3, (1, 3, 3, 3, 2)))
        self.check(machine, tree, 5, (0, 0), (3, (0, 0, 0, 0, 0)))
        self.check(machine, (("letter", 0), ("row", (0, 0))), 1, (0, 0), (3, (1, 2)))
        self.check(machine, (("letter", 0), ("row", (0, 0))), 2, (0, 0), (3, (0, 0)))

    def test_no_run(self):
        self.check(MACHINE, (("letter", 1),), 2, (1, 1), None)
        self.check(MACHINE, (("letter", 1), ("row", (0, 0))), 1, (0, 0), None)
        self.check(MACHINE, (("letter", 1), ("row", (0, 0))), 2, (0, 0), (1, (2, 2)))
        self.check(MACHINE, (("letter", 2),), 2, (0, 0), None)
        self.check(MACHINE, (("letter", 2), ("letter", 1)), 2, (0, 0), None)

    def test_firsts_and_lasts_do_not_matter(self):
        for ends in (((), ()), ((0, 1), (1,))):
            self.check(MACHINE[:4] + ends, (("letter", 0),), 2, (1, 0), (1, (1,)))


class RandomTrees(unittest.TestCase):
    def test_what_trees_have(self):
        rows = {"short": 0, "long": 0}
        for machine, tree, threshold in random_trees(51, 400):
            for many in range(1, len(tree) + 1):
                expected = plain_lines(machine, tree[:many], threshold)[-1]
                self.assertEqual(judge_tree(machine, tree[:many], threshold), expected)
            for line in tree:
                if line[0] == "row":
                    rows["short" if len(line[1]) <= threshold else "long"] += 1
        self.assertGreater(min(rows.values()), 200)

    def test_trees_that_may_have_nothing(self):
        source = random.Random(52)
        kinds = {True: 0, False: 0}
        for machine, tree, threshold in random_trees(53, 300):
            lines = list(tree)
            at = source.randrange(len(lines))
            earlier = [source.randrange(max(at, 1)) for _ in range(source.randint(0, 3))] if at > 0 else []
            lines[at] = source.choice((("letter", source.randrange(4)), ("row", tuple(earlier))))
            expected = plain_lines(machine, tuple(lines), threshold)
            self.assertEqual(judge_tree(machine, tuple(lines), threshold), None if expected is None else expected[-1])
            kinds[expected is None] += 1
        self.assertGreater(min(kinds.values()), 50)

    def test_runs(self):
        seen = {"none": 0, "letter": 0, "both": 0, "short": 0, "long": 0}
        for machine, tree, threshold in random_trees(54, 500):
            word, table, height = judge_tree(machine, tree, threshold)
            for before in range(machine[0]):
                for after in range(machine[0]):
                    found = tree_run(machine, tree, threshold, before, after)
                    if table[before][after] not in ACTIONS:
                        self.assertIsNone(found)
                        seen["none"] += 1
                        continue
                    line = tree[-1]
                    kind = line[0] if line[0] != "row" else ("short" if len(line[1]) <= threshold else "long")
                    seen[kind] += 1
                    expected = plain_run(machine, tree, threshold, len(tree) - 1, before, after)
                    self.assertEqual(found, (table[before][after], tuple(expected)))
                    self.check_walk(machine, word, before, after, found)
                    if threshold >= 2:
                        self.assertLessEqual(run_cost(machine, before, found[1]), (threshold + 4) ** height)
        self.assertGreater(min(seen.values()), 50)

    def check_walk(self, machine, word, before, after, found):
        """The steps are a run over the word from the one state to the other, and their greatest action is the value."""
        state = before
        for letter, number in zip(word, found[1], strict=True):
            step = machine[3][number]
            self.assertEqual(step[:2], (letter, state))
            state = step[2]
        self.assertEqual(state, after)
        self.assertEqual(max(machine[3][number][3] for number in found[1]), found[0])

    def test_long_rows_stay_cheap(self):
        # Rows of up to 200 lines, nested, whose runs keep counters low.
        many = 0
        source = random.Random(55)
        for machine in plain.small_machines():
            for letter in range(machine[2]):
                table = plain.of_letter(machine, letter)
                if plain.sequence(table, table) == table and repeated(table) == table:
                    rows = [("row", (at,) * source.randint(3, 14)) for at in (0, 1)]
                    tree = (("letter", letter), *rows)
                    for before in range(machine[0]):
                        for after in range(machine[0]):
                            found = tree_run(machine, tree, 2, before, after)
                            if found is not None:
                                self.check_walk(machine, [letter] * len(found[1]), before, after, found)
                                self.assertLessEqual(run_cost(machine, before, found[1]), 36)
                                many += 1
        self.assertGreater(many, 10)


if __name__ == "__main__":
    unittest.main()

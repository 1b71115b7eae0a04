"""The interface: somewhat beyond a limit the program raises no error, unless a point says so."""

import random
import unittest

from mostspent.bench import Bench
from mostspent.bounds import enough, least_bound, word_above
from mostspent.catalogues import catalogue, verdict
from mostspent.changes import join, renamed
from mostspent.costs import cheapest, cost
from mostspent.errors import DifferentLetters, InvalidMachine, MachineTooLarge, NoBound
from mostspent.errors import TooManyPossibilities, TooManyTables
from mostspent.judges import judge_catalogue
from mostspent.machines import applied, fault
from mostspent.notation import format_machine
from mostspent.papers import format_entries, format_recipe, format_table, parse_entries, parse_recipe
from mostspent.powers import least_power, power_machine, powers
from mostspent.profiles import profile
from mostspent.recipes import tables_of, word_of
from mostspent.tables import best_value, in_sequence, is_stable, letter_table, repeated
from mostspent.trees import judge_tree, tree_run
from mostspent.twins import within

FREE = (1, 0, 1, ((0, 0, 0, 0),), (0,), (0,))

# Each is beyond one limit of point 1 or beyond several.
BELOW = (
    (0, 1, 1, (), (), ()),
    (1, -1, 1, ((0, 0, 0, 0),), (0,), (0,)),
    (1, 1, 0, (), (0,), (0,)),
    (0, 0, 0, (), (), ()),
)
ABOVE = (
    (7, 1, 2, tuple((k % 2, k, (k + 1) % 7, k % 3) for k in range(7)), (0, 6), (6, 1)),
    (2, 4, 1, ((0, 0, 1, 7), (0, 1, 0, 8), (0, 1, 1, 1)), (0,), (0, 1)),
    (2, 1, 5, tuple((letter, 0, 1, 1) for letter in range(5)), (0,), (1,)),
    (2, 1, 1, ((0, 0, 0, 1), (0, 0, 1, 2)) * 51, (0,), (1,)),
    (2, 1, 1, ((0, 0, 0, 3), (0, 0, 1, 4)), (0,), (1,)),
)


def beyond(source):
    """A machine whose numbers may be somewhat beyond the limits of point 1."""
    states, counters, letters = source.randint(0, 8), source.randint(-1, 4), source.randint(0, 6)
    steps = ()
    if states > 0:
        many = source.choice((0, 1, 3, 6))
        steps = tuple(
            (
                source.randint(0, letters), source.randrange(states), source.randrange(states),
                source.randint(0, 2 * max(counters, 0) + 2),
            )
            for _ in range(many)
        )
    firsts, lasts = (tuple(source.sample(range(states), source.randint(0, states))) for _ in range(2))
    return (states, counters, letters, steps, firsts, lasts)


def machines():
    """The machines above, and random ones."""
    source = random.Random(8)
    return BELOW + ABOVE + tuple(beyond(source) for _ in range(200))


def recipe_beyond(source):
    """A recipe with letters that no machine has, perhaps without lines."""
    lines = []
    for number in range(source.choice((0, 1, 2, 8))):
        line = ("letter", source.randint(0, 6))
        if number > 0:
            named = (source.randrange(number), source.randrange(number))
            line = source.choice((line, ("both", *named), ("often", named[0])))
        lines.append(line)
    return tuple(lines)


class NoErrors(unittest.TestCase):
    def test_machines_and_their_texts(self):
        for machine in machines():
            self.assertIsInstance(format_machine(machine), str)
            self.assertIn(fault(machine), (None, "states", "counters", "letters", "steps", "firsts", "lasts"))
        for action in range(-1, 12):
            for many in range(6):
                self.assertEqual(len(applied(action, (1,) * many)), many)

    def test_costs(self):
        source = random.Random(9)
        for machine in machines():
            for many in (0, 1, 3, 210):
                word = [source.randint(0, 6) for _ in range(many)]
                found = cheapest(machine, word)
                self.assertEqual(cost(machine, word), None if found is None else found[0])
        self.assertEqual(cost(FREE, [0] * 1000), 0)

    def test_tables(self):
        for machine in machines():
            for letter in range(7):
                table = letter_table(machine, letter)
                self.assertEqual(len(table), machine[0])
                best_value(machine, table)
                double = in_sequence(table, table)
                if is_stable(double):
                    self.assertEqual(len(repeated(double)), machine[0])

    def test_recipes(self):
        source = random.Random(10)
        for machine in machines():
            recipe = recipe_beyond(source)
            self.assertEqual(len(tables_of(machine, recipe)), len(recipe))
            for times in (-1, 0, 1, 5):
                self.assertIsInstance(word_of(recipe, times), list)
        for times in (0, 1, 2, 1000, 1001):
            self.assertEqual(word_of((), times), [])

    def test_catalogues_and_judges(self):
        bounded = 0
        for machine in machines():
            try:
                entries = catalogue(machine)
            except TooManyTables:
                continue
            self.assertEqual(verdict(machine)[1], len(entries))
            answer = judge_catalogue(machine, entries)
            self.assertEqual(answer[0], verdict(machine)[0])
            bounded += answer == ("bounded",)
            again = judge_catalogue(machine, entries * (1001 // max(len(entries), 1)))
            self.assertEqual(again, answer)
        self.assertGreater(bounded, 50)

    def test_trees(self):
        source = random.Random(11)
        for machine in machines():
            lines = [("row", ()) if source.randint(0, 3) == 0 else line for line in recipe_beyond(source)]
            tree = tuple(("row", (line[1],) * 3) if line[0] == "often" else line for line in lines)
            for threshold in (-1, 0, 1, 101, 200):
                found = judge_tree(machine, tree, threshold)
                for before in range(-1, 8):
                    for after in range(-1, 8):
                        run = tree_run(machine, tree, threshold, before, after)
                        self.assertTrue(run is None or len(run[1]) == len(found[0]))

    def test_bounds(self):
        for machine in machines():
            for number in (-1, 0, 3, 21, 30):
                self.assertIsInstance(enough(machine, number), int)
                try:
                    found = word_above(machine, number)
                except TooManyPossibilities:
                    continue
                if found is not None:
                    self.assertGreater(cost(machine, found), number)
            for most in (-1, 25):
                try:
                    least_bound(machine, most)
                except (NoBound, TooManyPossibilities):
                    pass

    def test_twins(self):
        chosen = machines()
        for first, second in zip(chosen, chosen[1:] + chosen[:1]):
            for other in (first, second):
                try:
                    self.assertIn(within(first, other)[0], ("not", "empty", "within"))
                except TooManyTables:
                    pass
                except DifferentLetters:
                    self.assertNotEqual(first[2], other[2])

    def test_powers(self):
        for machine in machines():
            self.assertEqual(len(power_machine(machine)), 6)
            try:
                self.assertIn(powers(machine)[0], ("bounded", "grows"))
            except TooManyTables:
                pass
            try:
                least_power(machine, 22)
            except (NoBound, TooManyPossibilities):
                pass

    def test_changes(self):
        chosen = machines()
        for first, second in zip(chosen, chosen[1:] + chosen[:1]):
            try:
                self.assertLessEqual(join(first, second)[0], 6)
            except MachineTooLarge:
                self.assertTrue(first[0] + second[0] > 6 or len(first[3]) + len(second[3]) > 100)
            for letters in (0, 1, 4, 5, 7):
                names = tuple(letter % max(letters, 1) for letter in range(first[2] + 1))
                self.assertEqual(renamed(first, letters, names)[2], letters)

    def test_benches(self):
        for machine in machines():
            if fault(machine) is None:
                self.assertEqual(Bench(machine).machine(), machine)
            else:
                with self.assertRaises(InvalidMachine):
                    Bench(machine)

    def test_papers(self):
        source = random.Random(12)
        for machine in machines():
            recipe = recipe_beyond(source)
            self.assertIsInstance(format_recipe(recipe), str)
            entries = [(line, letter_table(machine, 0)) for line in recipe]
            self.assertIsInstance(format_entries(entries), str)
            self.assertIsInstance(format_table(letter_table(machine, 0)), str)
        self.assertEqual(len(parse_recipe("\n".join(["letter 3"] * 1500))), 1500)
        self.assertEqual(len(parse_entries("\n".join(["letter 3 = 6"] * 1500))), 1500)

    def test_profiles(self):
        for machine in machines():
            for length in (-1, 0, 5, 35):
                try:
                    self.assertIsInstance(profile(machine, length), list)
                except TooManyPossibilities:
                    pass


if __name__ == "__main__":
    unittest.main()

"""Point 32: power machines, and the functions to which they are passed."""

import random
import unittest

from mostspent.bounds import enough, least_bound, word_above
from mostspent.catalogues import catalogue, verdict
from mostspent.costs import cheapest, cost
from mostspent.errors import MostspentError, NoBound, TooManyPossibilities, TooManyTables
from mostspent.judges import judge_catalogue
from mostspent.powers import least_power, power_machine, powers
from mostspent.recipes import tables_of, word_of
from mostspent.tables import best_value, letter_table
from mostspent.trees import judge_tree, tree_run
from mostspent.twins import within
from tests import plain
from tests.listing import run_cost, runs
from tests.test_costs import within_seconds, words

GROWS = "grows"

# The words are the letter 0 once and the letter 1 twice.
WORDS = (3, 0, 2, ((0, 0, 2, 0), (1, 0, 1, 0), (1, 1, 2, 0)), (0,), (2,))

# Letter 0 once.
ONE_LETTER = (2, 0, 1, ((0, 0, 1, 0),), (0,), (1,))

# Any word that begins with letter 0.
BEGINNING = (2, 0, 2, ((0, 0, 1, 0), (0, 1, 1, 0), (1, 1, 1, 0)), (0,), (1,))

# The power machines of these have too many tables, and too many possibilities.
MANY_TABLES = (
    3, 0, 2,
    ((0, 1, 0, 0), (1, 2, 0, 0), (0, 0, 2, 0), (1, 1, 2, 0), (1, 2, 1, 0), (0, 2, 1, 0), (1, 0, 0, 0)),
    (2, 1), (1, 0),
)
MANY_POSSIBILITIES = (
    3, 0, 2, ((0, 2, 2, 0), (0, 1, 2, 0), (0, 0, 1, 0), (1, 1, 0, 0), (0, 1, 0, 0)), (0, 1), (1, 0, 2)
)

# Six states in turn, 100 steps of two letters; each of three states is a first and a last one.
LARGE = (6, 3, 2, tuple((k % 2, k % 6, (k + 1 + k // 50) % 6, k % 7) for k in range(100)), (0, 2, 4), (4, 0, 2))


def pieces(machine, word):
    """The least number of words of the machine that are the word, one after another; None if it is not."""
    least = [0]
    for end in range(1, len(word) + 1):
        found = [
            least[start] + 1
            for start in range(end)
            if least[start] is not None and runs(machine, word[start:end])
        ]
        least.append(min(found, default=None))
    return least[-1]


class ToTheStep(unittest.TestCase):
    def check(self, machine, expected):
        with self.subTest(machine=machine):
            self.assertEqual(power_machine(machine), expected)

    def test_one_first_and_one_last(self):
        steps = (
            (0, 0, 2, 0), (0, 3, 2, 1), (0, 2, 2, 1),
            (1, 0, 1, 0), (1, 3, 1, 1), (1, 2, 1, 1),
            (1, 1, 2, 0),
        )
        self.check(WORDS, (4, 1, 2, steps, (3,), (3, 2)))

    def test_several_firsts_and_lasts_in_their_order(self):
        machine = (3, 3, 1, ((0, 1, 0, 6), (0, 0, 2, 5), (0, 2, 1, 0)), (2, 0), (1, 2, 0))
        steps = (
            (0, 1, 0, 0),
            (0, 0, 2, 0), (0, 3, 2, 1), (0, 1, 2, 1), (0, 2, 2, 1), (0, 0, 2, 1),
            (0, 2, 1, 0), (0, 3, 1, 1), (0, 1, 1, 1), (0, 2, 1, 1), (0, 0, 1, 1),
        )
        self.check(machine, (4, 1, 1, steps, (3,), (3, 1, 2, 0)))

    def test_no_firsts_and_no_lasts(self):
        steps = ((0, 0, 1, 3), (1, 1, 0, 2))
        kept = ((0, 0, 1, 0), (1, 1, 0, 0))
        self.check((2, 2, 2, steps, (), (1, 0)), (3, 1, 2, kept, (2,), (2, 1, 0)))
        self.check((2, 2, 2, steps, (), ()), (3, 1, 2, kept, (2,), (2,)))
        begun = ((0, 0, 1, 0), (0, 2, 1, 1), (1, 1, 0, 0))
        self.check((2, 2, 2, steps, (0,), ()), (3, 1, 2, begun, (2,), (2,)))

    def test_no_steps(self):
        self.check((1, 0, 4, (), (0,), (0,)), (2, 1, 4, (), (1,), (1, 0)))

    def test_equal_steps_stay(self):
        self.check(
            (1, 1, 1, ((0, 0, 0, 1), (0, 0, 0, 1)), (0,), ()),
            (2, 1, 1, ((0, 0, 0, 0), (0, 1, 0, 1)) * 2, (1,), (1,)),
        )

    def test_only_the_state_in_which_a_step_begins_counts(self):
        # State 1 is a first one and the step leads to it.
        self.check((2, 0, 1, ((0, 0, 1, 0),), (1,), (1,)), (3, 1, 1, ((0, 0, 1, 0),), (2,), (2, 1)))

    def test_six_states_and_100_steps(self):
        made = power_machine(LARGE)
        begun = [step for step in LARGE[3] if step[1] in (0, 2, 4)]
        self.assertEqual((made[0], made[1], made[2], len(made[3])), (7, 1, 2, 100 + 4 * len(begun)))
        self.assertEqual(made[4:], ((6,), (6, 4, 0, 2)))
        self.assertGreater(len(made[3]), 100)
        self.assertEqual(made[3][:5], ((0, 0, 1, 0), (0, 6, 1, 1), (0, 4, 1, 1), (0, 0, 1, 1), (0, 2, 1, 1)))

    def test_the_kinds_of_values(self):
        for machine in (WORDS, ONE_LETTER, LARGE):
            made = power_machine(machine)
            self.assertEqual([type(part) for part in made], [int, int, int, tuple, tuple, tuple])
            self.assertIs(type(made), tuple)
            self.assertEqual({type(step) for step in made[3]}, {tuple})


class Costs(unittest.TestCase):
    def test_words_by_hand(self):
        made = power_machine(WORDS)
        for word, expected in (
            ([], 0), ([0], 1), ([1, 1], 1), ([0, 0], 2), ([0, 1, 1, 0], 3), ([1] * 6, 3),
            ([1], None), ([1, 1, 1], None), ([0, 1, 0], None),
        ):
            self.assertEqual(cost(made, word), expected)

    def test_the_counters_of_the_machine_do_not_matter(self):
        machine = (1, 3, 1, ((0, 0, 0, 5),), (0,), (0,))
        self.assertEqual(cost(machine, [0] * 9), 9)
        self.assertEqual(cost(power_machine(machine), [0] * 9), 1)

    def test_random_machines(self):
        source = random.Random(80)
        seen = {None: 0, 0: 0, 1: 0, 2: 0, 3: 0}
        for _ in range(150):
            machine = plain.random_machine(source, 4, 2, 2, 8)
            made = power_machine(machine)
            for word in words(machine[2], 5):
                expected = pieces(machine, word)
                self.assertEqual(cost(made, word), expected)
                seen[expected] = seen.get(expected, 0) + 1
        self.assertGreater(min(seen.values()), 10)


class Powers(unittest.TestCase):
    def test_powers(self):
        self.assertEqual(powers(BEGINNING)[0], "bounded")
        answer = powers(ONE_LETTER)
        self.assertEqual(answer[0], GROWS)
        self.assertEqual(answer, verdict(power_machine(ONE_LETTER)))
        # Words of letter 0 are put together from more and more words.
        self.assertGreater(cost(power_machine(ONE_LETTER), word_of(answer[2], 9)), 7)

    def test_powers_is_the_verdict_on_the_power_machine(self):
        source = random.Random(81)
        answers = {"bounded": 0, GROWS: 0, TooManyTables: 0}
        for _ in range(150):
            machine = plain.random_machine(source, 4, 2, 2, 12)
            made = power_machine(machine)
            tables = plain.all_tables(made, 100)
            if tables is None:
                with self.assertRaises(TooManyTables):
                    powers(machine)
                answers[TooManyTables] += 1
                continue
            grown = GROWS in [plain.value_of(made, table) for table in tables]
            answer = powers(machine)
            self.assertEqual(answer[:2], (GROWS if grown else "bounded", len(tables)))
            self.assertEqual(answer, verdict(made))
            answers[answer[0]] += 1
        self.assertGreater(min(answers.values()), 1)

    def test_too_many_tables(self):
        self.assertGreater(len(plain.listed(power_machine(MANY_TABLES))), 100)
        with within_seconds(20), self.assertRaises(TooManyTables) as caught:
            powers(MANY_TABLES)
        self.assertIsInstance(caught.exception, MostspentError)

    def test_least_power(self):
        self.assertEqual(least_power(BEGINNING, 5), (1, [0]))
        # The empty word is put together from no words, and nothing else is.
        self.assertEqual(least_power((1, 0, 2, (), (0,), (0,)), 0), (0, None))
        self.assertEqual(least_power((1, 0, 2, (), (), ()), 0), (0, None))
        # All words with letters of one kind; letter 2 ends each.
        steps = ((0, 0, 0, 0), (1, 1, 1, 0), (2, 0, 2, 0), (2, 1, 2, 0))
        machine = (3, 0, 3, steps, (0, 1), (0, 1, 2))
        for most in (0, 5):
            with self.assertRaises(NoBound):
                least_power(machine, most)
        # Letter 0 once or as often as one wants, but not twice: two words for twice.
        machine = (4, 0, 1, ((0, 0, 1, 0), (0, 1, 2, 0), (0, 2, 3, 0), (0, 3, 3, 0)), (0,), (1, 3))
        self.assertEqual(least_power(machine, 9), (2, [0, 0]))
        self.assertEqual(least_power(machine, 2), (2, [0, 0]))
        with self.assertRaises(NoBound):
            least_power(machine, 1)

    def test_least_power_is_the_least_bound_of_the_power_machine(self):
        source = random.Random(82)
        answers = {tuple: 0, NoBound: 0, TooManyPossibilities: 0}
        machines = [plain.random_machine(source, 4, 1, 2, 12) for _ in range(300)]
        for machine in machines + [MANY_POSSIBILITIES]:
            made = power_machine(machine)
            try:
                expected = least_bound(made, 20)
            except (NoBound, TooManyPossibilities) as error:
                with self.assertRaises(type(error)):
                    least_power(machine, 20)
                answers[type(error)] += 1
            else:
                found = least_power(machine, 20)
                self.assertEqual(found, expected)
                if found[1] is not None and len(found[1]) <= 8:
                    self.assertEqual(pieces(machine, found[1]), found[0])
                answers[tuple] += 1
        self.assertGreater(min(answers.values()), 0)

    def test_too_many_possibilities(self):
        for most in (13, 20):
            with within_seconds(20), self.assertRaises(TooManyPossibilities) as caught:
                least_power(MANY_POSSIBILITIES, most)
            self.assertIsInstance(caught.exception, MostspentError)
        for most in (0, 12):
            with self.assertRaises(NoBound):
                least_power(MANY_POSSIBILITIES, most)

    def test_the_word_is_a_new_list(self):
        least_power(BEGINNING, 5)[1].clear()
        self.assertEqual(least_power(BEGINNING, 5), (1, [0]))


class PassedOn(unittest.TestCase):
    """A power machine of 7 states and more than 100 steps is passed to the functions that take one."""

    def test_costs(self):
        made = power_machine(LARGE)
        for word in ([], [0], [0, 1], [0, 1, 0, 0, 1], [1] * 6):
            expected = pieces(LARGE, word)
            self.assertEqual(cost(made, word), expected)
            found = cheapest(made, word)
            if expected is None:
                self.assertIsNone(found)
            else:
                self.assertEqual(found[:2], (expected, 6))
                self.assertEqual(run_cost(made, 6, found[2]), expected)

    def test_tables_and_recipes(self):
        made = power_machine(LARGE)
        for letter in (0, 1):
            table = letter_table(made, letter)
            self.assertEqual(table, plain.of_letter(made, letter))
            self.assertEqual(len(table), 7)
            self.assertEqual(best_value(made, table), plain.value_of(made, table))
        recipe = (("letter", 0), ("letter", 1), ("both", 0, 1), ("both", 2, 0))
        lines = []
        for line in recipe:
            lines.append(plain.table_of(made, line, lines))
        self.assertEqual(tables_of(made, recipe), lines)

    def test_catalogues_and_judges(self):
        # Few tables: over letter 0 all states lead on in turn.
        steps = tuple((0, k, (k + 1) % 6, 0) for k in range(6)) * 16
        machine = (6, 0, 1, steps, (0, 3), (3, 0))
        made = power_machine(machine)
        self.assertEqual((made[0], len(made[3]) > 100), (7, True))
        entries = catalogue(made)
        self.assertEqual(entries, plain.listed(made))
        answer = verdict(made)
        self.assertEqual(powers(machine), answer)
        self.assertEqual(answer[:2], ("bounded", len(entries)))
        self.assertEqual(judge_catalogue(made, entries), ("bounded",))
        self.assertEqual(judge_catalogue(made, entries[1:2]), ("wrong", 0))
        self.assertEqual(within(made, made), ("within", len(entries)))
        self.assertEqual(within(machine, made)[0], "within")
        self.assertEqual(word_above(made, 1), None)
        self.assertEqual(least_bound(made, 4), (1, [0, 0, 0]))
        self.assertEqual(least_power(machine, 4), (1, [0, 0, 0]))
        self.assertEqual(enough(made, 3), 7 * 4 + 2)

    def test_trees(self):
        made = power_machine(LARGE)
        tree = (("letter", 0), ("letter", 1), ("both", 0, 1))
        word, table, height = judge_tree(made, tree, 2)
        self.assertEqual((word, len(table), height), ([0, 1], 7, 1))
        for after in range(7):
            found = tree_run(made, tree, 2, 6, after)
            if table[6][after] is None:
                self.assertIsNone(found)
            else:
                state = 6
                for letter, number in zip(word, found[1], strict=True):
                    self.assertEqual(made[3][number][:2], (letter, state))
                    state = made[3][number][2]
                self.assertEqual(state, after)
                self.assertEqual(found[0], max(made[3][number][3] for number in found[1]))

    def test_large_power_machines_are_answered(self):
        source = random.Random(83)
        for _ in range(10):
            machine = plain.random_machine(source, 6, 3, 4, 100)
            with within_seconds(30):
                for function, error in ((powers, TooManyTables), (lambda one: least_power(one, 20), MostspentError)):
                    try:
                        self.assertIs(type(function(machine)), tuple)
                    except error:
                        pass


if __name__ == "__main__":
    unittest.main()

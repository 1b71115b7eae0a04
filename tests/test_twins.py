"""Points 29 to 31: whether one machine is bounded within another one."""

import functools
import itertools
import random
import unittest

from mostspent.catalogues import catalogue
from mostspent.costs import cost
from mostspent.errors import DifferentLetters, MostspentError, TooManyTables
from mostspent.recipes import tables_of, word_of
from mostspent.twins import within
from tests import plain
from tests.listing import after
from tests.test_catalogues import BLOCKS, ONE_RESET, THERE_AND_BACK, WITH_100, WITH_101
from tests.test_costs import within_seconds

GROWS = "grows"
ACTIONS = (0, 1, 2, 3, 4, 5, 6)

# Over two letters: FREE accepts all words, FEW those without letter 1; letter 0 or 1 is COUNTED.
FREE = (1, 0, 2, ((0, 0, 0, 0), (1, 0, 0, 0)), (0,), (0,))
FEW = (1, 0, 2, ((0, 0, 0, 0),), (0,), (0,))
NONE = (1, 0, 2, (), (), ())
COUNTED_0 = (1, 1, 2, ((0, 0, 0, 1), (1, 0, 0, 0)), (0,), (0,))
COUNTED_1 = (1, 1, 2, ((0, 0, 0, 0), (1, 0, 0, 1)), (0,), (0,))
COUNTED_BOTH = (1, 1, 2, ((0, 0, 0, 1), (1, 0, 0, 1)), (0,), (0,))


def plain_twins(first, second):
    """The twin catalogue as lists of lines and of pairs, some more than 100 if it has more."""

    def made(line, pairs):
        word, *named = line
        if word == "letter":
            return tuple(plain.of_letter(machine, named[0]) for machine in (first, second))
        chosen = [pairs[number] for number in named]
        if word == "both":
            return tuple(plain.sequence(one, other) for one, other in zip(*chosen))
        if all(plain.sequence(table, table) == table for table in chosen[0]):
            return tuple(plain.again(table) for table in chosen[0])
        return None

    return plain.tried_in_turn(first[2], made, 100)


def plain_recipe(lines, number):
    """The recipe of the entry with this number."""
    needed = {number}
    for at in range(number, -1, -1):
        if at in needed and lines[at][0] != "letter":
            needed |= set(lines[at][1:])
    order = sorted(needed)
    return tuple(
        lines[at] if lines[at][0] == "letter" else (lines[at][0],) + tuple(order.index(old) for old in lines[at][1:])
        for at in order
    )


def plain_within(first, second):
    """What `within` returns, or None if there would be more than 100 pairs."""
    lines, pairs = plain_twins(first, second)
    if len(pairs) > 100:
        return None
    for number, (one, other) in enumerate(pairs):
        if plain.value_of(second, other) in ACTIONS and plain.value_of(first, one) in (GROWS, None):
            return ("not", len(pairs), plain_recipe(lines, number))
    if set(second[4]) & set(second[5]) and not set(first[4]) & set(first[5]):
        return ("empty", len(pairs))
    return ("within", len(pairs))


@functools.lru_cache
def pairs_of_machines():
    """Pairs of small machines with the same number of letters and at most 100 pairs of tables."""
    source = random.Random(70)
    found = {"not": [], "not, as it grows": [], "within": [], "empty": []}
    while min(len(cases) for cases in found.values()) < 40:
        letters = source.randint(1, 2)
        first, second = (plain.random_machine(source, 2, 2, 1, 6) for _ in range(2))
        first, second = (
            machine[:2] + (letters, tuple((source.randrange(letters),) + step[1:] for step in machine[3])) + machine[4:]
            for machine in (first, second)
        )
        answer = plain_within(first, second)
        if answer is not None and (answer[1] >= 3 or answer[0] == "empty"):
            kind = answer[0]
            if kind == "not" and plain.value_of(first, tables_of(first, answer[2])[-1]) == GROWS:
                kind = "not, as it grows"
            if len(found[kind]) < 60:
                found[kind].append((first, second))
    return [pair for cases in found.values() for pair in cases]


def is_word_between(first, second, low, high, most=3000):
    """Whether some word costs the second machine at most `low` and the first one more than `high`, or nothing.

    Raises LookupError if there are more than `most` kinds of words.
    """

    def onward(machine, number, places, letter):
        found = set()
        for (state, values), step in itertools.product(places, machine[3]):
            if step[:2] == (letter, state) and max((0,) + after(step[3], values)) <= number:
                found.add((step[2], after(step[3], values)))
        return frozenset(found)

    def accepts(machine, places):
        return any(state in machine[5] for state, _ in places)

    start = tuple(frozenset((state, (0,) * machine[1]) for state in machine[4]) for machine in (first, second))
    seen = {start}
    waiting = [start]
    for one, other in waiting:
        if accepts(second, other) and not accepts(first, one):
            return True
        for letter in range(first[2]):
            kind = (onward(first, high, one, letter), onward(second, low, other, letter))
            if kind not in seen:
                seen.add(kind)
                waiting.append(kind)
                if len(seen) > most:
                    raise LookupError("too many kinds of words")
    return False


class ByHand(unittest.TestCase):
    def check(self, first, second, expected):
        with self.subTest(first=first, second=second):
            self.assertEqual(within(first, second), expected)

    def test_all_words_and_few(self):
        self.check(FREE, FEW, ("within", 2))
        self.check(FEW, FREE, ("not", 2, (("letter", 1),)))
        self.check(FREE, FREE, ("within", 1))
        self.check(FEW, FEW, ("within", 2))

    def test_machines_that_accept_nothing(self):
        self.check(FREE, NONE, ("within", 1))
        self.check(NONE, NONE, ("within", 1))
        self.check(NONE, FREE, ("not", 1, (("letter", 0),)))
        # Without first or last states all best values are None.
        self.check(FREE[:4] + ((), (0,)), NONE, ("within", 1))
        self.check(COUNTED_0, COUNTED_1[:4] + ((0,), ()), ("within", 8))

    def test_a_first_table_that_grows(self):
        self.check(COUNTED_0, FREE, ("not", 3, (("letter", 0), ("often", 0))))
        self.check(COUNTED_1, FREE, ("not", 3, (("letter", 1), ("often", 0))))
        self.check(FREE, COUNTED_0, ("within", 3))

    def test_two_machines_that_count_differently(self):
        self.check(COUNTED_0, COUNTED_1, ("not", 8, (("letter", 0), ("often", 0))))
        self.check(COUNTED_1, COUNTED_0, ("not", 8, (("letter", 1), ("often", 0))))
        self.check(COUNTED_0, COUNTED_BOTH, ("within", 5))
        self.check(COUNTED_BOTH, COUNTED_0, ("not", 5, (("letter", 1), ("often", 0))))

    def test_the_recipe_is_numbered_anew(self):
        # Only letter 2 is accepted by the second machine and not by the first one.
        first = (1, 0, 3, ((0, 0, 0, 0), (1, 0, 0, 0)), (0,), (0,))
        second = (2, 0, 3, ((0, 0, 0, 0), (2, 0, 1, 0)), (0,), (0, 1))
        self.assertEqual(within(first, second)[::2], ("not", (("letter", 2),)))
        # Letters 0 and 2, one after the other, but neither of them alone.
        second = (3, 0, 3, ((0, 0, 1, 0), (2, 1, 2, 0)), (0,), (2,))
        first = (1, 0, 3, ((0, 0, 0, 0), (1, 0, 0, 0)), (0,), (0,))
        self.assertEqual(within(first, second)[::2], ("not", (("letter", 0), ("letter", 2), ("both", 0, 1))))

    def test_a_pair_is_bad_for_an_action_of_any_kind(self):
        for action in ACTIONS:
            second = (1, 3, 1, ((0, 0, 0, action),), (0,), (0,))
            self.check((1, 0, 1, (), (0,), (0,)), second, ("not", 2 if action in (1, 3, 5) else 1, (("letter", 0),)))

    def test_a_pair_with_a_second_table_that_grows_is_not_bad(self):
        # Words of letter 0 alone cost both more and more.
        self.check(COUNTED_0, COUNTED_0, ("within", 3))
        # The first machine does not accept [0], but this costs the second one something: so it is bad.
        self.check(FEW, COUNTED_1, ("not", 3, (("letter", 1),)))

    def test_the_empty_word(self):
        # One letter at least, and any word.
        some = (2, 0, 2, tuple((letter, k, 1, 0) for letter in (0, 1) for k in (0, 1)), (0,), (1,))
        self.check(some, FREE, ("empty", 1))
        self.check(FREE, some, ("within", 1))
        self.check(some, some, ("within", 1))
        # Only the empty word is accepted by the second machine.
        self.check(some, NONE[:4] + ((0,), (0,)), ("empty", 1))
        self.check(FREE, NONE[:4] + ((0,), (0,)), ("within", 1))
        self.check(NONE, NONE[:4] + ((0,), (0,)), ("empty", 1))

    def test_a_bad_pair_comes_before_the_empty_word(self):
        self.check(NONE, FREE, ("not", 1, (("letter", 0),)))
        self.check((2, 1, 2, ((0, 0, 1, 1), (0, 1, 1, 1)), (0,), (1,)), FEW, ("not", 3, (("letter", 0), ("often", 0))))

    def test_pairs_are_repeated_only_if_both_tables_are_stable(self):
        # Letter 0 is stable in the first machine, and twice letter 0 in the second one.
        first = (1, 1, 1, ((0, 0, 0, 1),), (0,), (0,))
        second = (2, 0, 1, ((0, 0, 1, 0), (0, 1, 0, 0)), (0,), (0, 1))
        expected = (("letter", 0), ("both", 0, 0), ("often", 1))
        self.check(first, second, ("not", 4, expected))
        self.check(second, first, ("within", 4))
        # The other way round: the first table of letter 0 is not stable.
        turning = (2, 1, 1, ((0, 0, 1, 1), (0, 1, 0, 1)), (0,), (0, 1))
        self.check(turning, (1, 0, 1, ((0, 0, 0, 0),), (0,), (0,)), ("not", 4, expected))


class Errors(unittest.TestCase):
    def check_raises(self, first, second, error):
        with within_seconds(20), self.assertRaises(error) as caught:
            within(first, second)
        self.assertIs(type(caught.exception), error)
        self.assertIsInstance(caught.exception, MostspentError)

    def test_different_numbers_of_letters(self):
        for one, other in itertools.permutations(range(1, 5), 2):
            self.check_raises((1, 0, one, (), (0,), (0,)), (1, 0, other, (), (0,), (0,)), DifferentLetters)
        self.check_raises(ONE_RESET, BLOCKS, DifferentLetters)

    def test_more_than_100_pairs(self):
        for other in (WITH_100, WITH_101, BLOCKS, FREE):
            self.check_raises(WITH_101, other, TooManyTables)
            self.check_raises(other, WITH_101, TooManyTables)

    def test_exactly_100_pairs(self):
        with within_seconds(20):
            self.assertEqual(within(WITH_100, WITH_100), ("within", 100))
        self.assertEqual(len(plain_twins(WITH_100, WITH_100)[1]), 100)
        # Both have a catalogue, but there are more than 100 pairs.
        self.assertGreater(len(plain_twins(WITH_100, COUNTED_0)[1]), 100)
        self.check_raises(WITH_100, COUNTED_0, TooManyTables)

    def test_different_letters_come_before_too_many_tables(self):
        more = WITH_101[:2] + (3,) + WITH_101[3:]
        self.check_raises(WITH_101, more, DifferentLetters)
        self.check_raises(more, WITH_101, DifferentLetters)
        self.check_raises(more, more, TooManyTables)


class Pairs(unittest.TestCase):
    def test_pairs_of_machines(self):
        seen = {"not": 0, "within": 0, "empty": 0}
        for first, second in pairs_of_machines():
            expected = plain_within(first, second)
            self.assertEqual(within(first, second), expected)
            seen[expected[0]] += 1
        self.assertGreater(min(seen.values()), 30)

    def test_a_machine_within_itself(self):
        for machine in plain.small_machines() + [BLOCKS, ONE_RESET, THERE_AND_BACK]:
            self.assertEqual(within(machine, machine), ("within", len(catalogue(machine))))

    def test_the_recipe_is_that_of_the_first_bad_pair(self):
        kinds = {GROWS: 0, None: 0}
        for first, second in pairs_of_machines():
            answer = within(first, second)
            if answer[0] == "not":
                self.assertEqual(len(answer), 3)
                value = plain.value_of(first, tables_of(first, answer[2])[-1])
                self.assertIn(plain.value_of(second, tables_of(second, answer[2])[-1]), ACTIONS)
                kinds[value] += 1
        self.assertGreater(min(kinds.values()), 30)

    def test_the_kinds_of_values(self):
        for first, second in ((FREE, FEW), (FEW, FREE), (NONE, NONE[:4] + ((0,), (0,)))):
            answer = within(first, second)
            self.assertIs(type(answer), tuple)
            self.assertEqual([type(part) for part in answer], [str, int, tuple][:len(answer)])


class Promise(unittest.TestCase):
    """The first machine is bounded within the second one if and only if `within` says so: by costs alone."""

    def test_answers_agree_with_a_search_for_words(self):
        seen = {True: 0, False: 0}
        for first, second in pairs_of_machines():
            answer = within(first, second)[0] == "within"
            try:
                bounded = all(
                    any(not is_word_between(first, second, low, high) for high in range(6)) for low in range(3)
                )
            except LookupError:
                continue
            with self.subTest(first=first, second=second):
                # These machines are so small that these numbers tell.
                self.assertEqual(answer, bounded)
            seen[answer] += 1
        self.assertGreater(min(seen.values()), 30)

    def test_the_words_of_recipes(self):
        many = 0
        for first, second in pairs_of_machines():
            answer = within(first, second)
            if answer[0] == "not":
                words = [word_of(answer[2], times) for times in (3, 4, 6, 9)]
                if len(words[-1]) <= 300:
                    costs = [cost(first, word) for word in words]
                    self.assertLessEqual(max(cost(second, word) for word in words), 16)
                    self.assertTrue(None in costs or costs[-1] > costs[0])
                    many += 1
        self.assertGreater(many, 20)


if __name__ == "__main__":
    unittest.main()

"""Points 39 and 40: how many words of a length cost how much."""

import itertools
import random
import unittest

from mostspent.costs import cost
from mostspent.errors import MostspentError, TooManyPossibilities
from mostspent.powers import power_machine
from mostspent.profiles import profile
from tests import plain
from tests.listing import after, cheapest_listed
from tests.test_catalogues import BLOCKS, ONE_RESET
from tests.test_costs import within_seconds

# Over words of n letters there are (n + 1) * (n + 2) / 2 marks: letter 0 leads from state to state, letter 1 increases
# counter 1, letter 2 sets it to 0.
TURNING = (2, 1, 3, ((0, 0, 1, 0), (0, 1, 0, 0), (1, 0, 0, 1), (1, 1, 1, 1), (2, 0, 0, 2), (2, 1, 1, 2)), (0,), (0, 1))


def chain(*actions):
    """Six states in a row: letter a leads from state k to the next one with each action in the text actions[k][a]."""
    steps = tuple(
        (letter, k, k + 1, int(action))
        for k, texts in enumerate(actions)
        for letter, text in enumerate(texts)
        for action in text
    )
    return (6, 3, 4, steps, (0,), (5,))


# Over words of 5 letters the one has 300 marks and the other 301, over longer words both have one.
WITH_300 = chain(
    ("3", "31", "15", "53"), ("3", "53", "1", "5"), ("5", "3", "1", "5"), ("31", "1", "1", "3"), ("1", "1", "15", "31")
)
WITH_301 = chain(
    ("3", "51", "13", "53"), ("51", "3", "5", "1"), ("5", "53", "53", "51"), ("5", "31", "1", "1"),
    ("3", "15", "53", "31"),
)


def counted(machine, length):
    """The profile, found word by word."""
    found = {}
    for word in itertools.product(range(machine[2]), repeat=length):
        cheapest = cheapest_listed(machine, list(word))
        if cheapest is not None:
            found[cheapest[0]] = found.get(cheapest[0], 0) + 1
    return sorted(found.items())


def by_marks(machine, length, most=300):
    """The profile and the greatest number of marks, found from marks that are dicts; LookupError for too many."""
    counts = {frozenset(((first, (0,) * machine[1]), 0) for first in machine[4]): 1}
    greatest = 1
    for _ in range(length):
        longer = {}
        for (mark, many), letter in itertools.product(counts.items(), range(machine[2])):
            costs = {}
            for ((state, values), price), step in itertools.product(mark, machine[3]):
                if step[:2] == (letter, state):
                    place = (step[2], after(step[3], values))
                    costs[place] = min(costs.get(place, 1000), max((price,) + place[1]))
            key = frozenset(costs.items())
            longer[key] = longer.get(key, 0) + many
        counts = longer
        greatest = max(greatest, len(counts))
        if greatest > most:
            raise LookupError("too many marks")
    found = {}
    for mark, many in counts.items():
        prices = [price for (state, _), price in mark if state in machine[5]]
        if prices:
            found[min(prices)] = found.get(min(prices), 0) + many
    return sorted(found.items()), greatest


class Profiles(unittest.TestCase):
    def check(self, machine, length, expected):
        with self.subTest(machine=machine, length=length):
            self.assertEqual(profile(machine, length), expected)

    def check_given_up(self, machine, length):
        with self.subTest(machine=machine, length=length), self.assertRaises(TooManyPossibilities) as caught:
            profile(machine, length)
        self.assertIsInstance(caught.exception, MostspentError)


class ByHand(Profiles):
    def test_no_letters(self):
        self.check(BLOCKS, 0, [(0, 1)])
        self.check(ONE_RESET, 0, [])
        self.check((2, 3, 4, (), (1, 0), (1,)), 0, [(0, 1)])
        self.check((2, 3, 4, (), (), (1,)), 0, [])
        self.check((2, 3, 4, (), (1,), ()), 0, [])

    def test_one_counter(self):
        self.check(BLOCKS, 1, [(0, 1), (1, 1)])
        self.check(BLOCKS, 2, [(0, 1), (1, 2), (2, 1)])
        # Of 0 and 1 in words of three letters: the greatest number of letters 0 in a row.
        self.check(BLOCKS, 3, [(0, 1), (1, 4), (2, 2), (3, 1)])
        self.check(BLOCKS, 4, [(0, 1), (1, 7), (2, 5), (3, 2), (4, 1)])

    def test_one_letter(self):
        for length in range(1, 31):
            self.check(ONE_RESET, length, [(length // 2, 1)])
            self.check((1, 1, 1, ((0, 0, 0, 1),), (0,), (0,)), length, [(length, 1)])
            self.check((1, 1, 1, ((0, 0, 0, 2),), (0,), (0,)), length, [(0, 1)])

    def test_all_words_cost_nothing(self):
        for letters in (1, 2, 3, 4):
            machine = (1, 0, letters, tuple((letter, 0, 0, 0) for letter in range(letters)), (0,), (0,))
            for length in (0, 1, 5, 30):
                self.check(machine, length, [(0, letters ** length)])

    def test_a_machine_that_accepts_nothing(self):
        for length in (0, 1, 2, 30):
            self.check((1, 1, 2, (), (0,), ()), length, [])
            self.check((1, 1, 2, (), (), (0,)), length, [])
            self.check((2, 1, 2, ((0, 0, 0, 1),), (0,), (1,)), length, [])
            self.check((2, 1, 2, ((0, 0, 1, 1),), (0,), (1,)), length, [(1, 1)] if length == 1 else [])

    def test_words_that_are_not_accepted_do_not_count(self):
        # Only words that end in letter 1.
        machine = (2, 1, 2, ((0, 0, 0, 1), (1, 0, 0, 2), (1, 0, 1, 0)), (0,), (1,))
        self.check(machine, 3, [(0, 1), (1, 2), (2, 1)])
        self.assertEqual(sum(count for _, count in profile(machine, 9)), 2 ** 8)

    def test_costs_are_in_ascending_order(self):
        steps = tuple((0, 0, k, 2 * (k % 2) + 1) for k in range(2)) + ((1, 0, 0, 0), (1, 1, 1, 1), (0, 1, 1, 0))
        machine = (2, 2, 2, steps, (0,), (1,))
        for length in range(9):
            found = profile(machine, length)
            self.assertEqual(found, sorted(found))
            self.assertEqual(found, counted(machine, length))

    def test_the_cheapest_run_of_each_mark_counts(self):
        # To state 1 there is a run for 2 and one for 0; both end with counters of 0.
        steps = ((0, 0, 2, 1), (0, 2, 3, 1), (0, 3, 1, 2), (0, 0, 4, 0), (0, 4, 5, 0), (0, 5, 1, 0))
        self.check((6, 1, 1, steps, (0,), (1,)), 3, [(0, 1)])
        self.check((6, 1, 1, steps[:3], (0,), (1,)), 3, [(2, 1)])
        self.check((6, 1, 1, steps[3:] + steps[:3], (0,), (1,)), 3, [(0, 1)])

    def test_firsts_in_any_order(self):
        steps = ((0, 0, 0, 1), (0, 1, 1, 0), (1, 0, 1, 0), (1, 2, 2, 1))
        for firsts in itertools.permutations((0, 1, 2)):
            self.check((3, 1, 2, steps, firsts, (0, 2)), 2, counted((3, 1, 2, steps, (0, 1, 2), (2, 0)), 2))

    def test_all_words_of_30_letters(self):
        with within_seconds(30):
            found = profile(TURNING[:3] + (TURNING[3][:4], (0,), (0, 1)), 30)
        # Without letter 2 a word of 30 letters costs how often it has letter 1.
        choose = [1]
        for k in range(30):
            choose.append(choose[-1] * (30 - k) // (k + 1))
        self.assertEqual(found, list(enumerate(choose)))

    def test_a_new_list_each_time(self):
        for length in (0, 3):
            found = profile(BLOCKS, length)
            self.assertIs(type(found), list)
            for pair in found:
                self.assertEqual([type(part) for part in (pair, *pair)], [tuple, int, int])
            expected = list(found)
            found.clear()
            self.assertEqual(profile(BLOCKS, length), expected)


class AgainstCounting(Profiles):
    def test_small_machines_word_by_word(self):
        source = random.Random(110)
        many = {}
        for _ in range(250):
            machine = plain.random_machine(source, 3, 3, 2, 8)
            for length in range(6):
                expected = counted(machine, length)
                self.check(machine, length, expected)
                many[len(expected)] = many.get(len(expected), 0) + 1
        self.assertGreater(min(many[number] for number in (0, 1, 2, 3)), 5)

    def test_more_letters_word_by_word(self):
        source = random.Random(111)
        for letters in (3, 4):
            for _ in range(30):
                machine = plain.random_machine(source, 3, 2, 1, 14)
                steps = tuple((source.randrange(letters),) + step[1:] for step in machine[3])
                machine = machine[:2] + (letters, steps) + machine[4:]
                self.check(machine, 4, counted(machine, 4))

    def test_longer_words_mark_by_mark(self):
        source = random.Random(112)
        kinds = {"given up": 0, "found": 0}
        for _ in range(200):
            machine = plain.random_machine(source, 3, 2, 2, 8)
            length = source.randint(7, 26)
            try:
                expected, _ = by_marks(machine, length)
            except LookupError:
                self.check_given_up(machine, length)
                kinds["given up"] += 1
            else:
                self.check(machine, length, expected)
                kinds["found"] += 1
        self.assertGreater(min(kinds.values()), 5)

    def test_the_sum_of_the_counts_is_the_number_of_accepted_words(self):
        source = random.Random(113)
        for _ in range(100):
            machine = plain.random_machine(source, 3, 2, 2, 8)
            accepted = sum(
                cost(machine, list(word)) is not None for word in itertools.product(range(machine[2]), repeat=6)
            )
            self.assertEqual(sum(count for _, count in profile(machine, 6)), accepted)

    def test_a_power_machine(self):
        machine = (3, 2, 2, ((0, 0, 2, 0), (1, 0, 1, 4), (1, 1, 2, 0), (0, 2, 0, 3)), (0,), (2,))
        made = power_machine(machine)
        for length in range(7):
            self.check(made, length, counted(made, length))
        steps = tuple((k % 2, k % 6, (k + 1) % 6, 0) for k in range(100))
        made = power_machine((6, 0, 2, steps, (0, 2, 4), (4, 0, 2)))
        self.assertEqual((made[0], len(made[3]) > 100), (7, True))
        self.check(made, 4, by_marks(made, 4)[0])


class Marks(Profiles):
    """Profiles with about 300 marks."""

    def test_exactly_300_marks(self):
        expected, marks = by_marks(WITH_300, 5)
        self.assertEqual(marks, 300)
        self.check(WITH_300, 5, expected)
        self.assertEqual(sum(count for _, count in expected), 4 ** 5)
        for length in (6, 7, 30):
            self.check(WITH_300, length, [])

    def test_exactly_300_marks_of_long_words(self):
        expected, marks = by_marks(TURNING, 23)
        self.assertEqual(marks, 300)
        self.check(TURNING, 23, expected)
        self.assertEqual(sum(count for _, count in expected), 3 ** 23)
        for length in (24, 25, 30):
            self.check_given_up(TURNING, length)

    def test_more_than_300_marks(self):
        self.assertEqual(by_marks(WITH_301, 5, 301)[1], 301)
        self.check(WITH_301, 4, by_marks(WITH_301, 4)[0])
        self.check_given_up(WITH_301, 5)

    def test_more_than_300_marks_of_shorter_words_alone(self):
        # Of words of 6 letters and more there is one mark, as there are no runs.
        for length in (6, 7, 30):
            self.check_given_up(WITH_301, length)

    def test_the_mark_of_words_without_runs_counts(self):
        machine = TURNING[:2] + (4,) + TURNING[3:]
        self.assertEqual(by_marks(machine, 23, 301)[1], 301)
        self.check(machine, 22, by_marks(machine, 22)[0])
        self.check_given_up(machine, 23)


class Limits(Profiles):
    def test_somewhat_beyond_the_limits(self):
        self.check(ONE_RESET, 60, [(30, 1)])
        self.check((1, 0, 5, tuple((letter, 0, 0, 0) for letter in range(5)), (0,), (0,)), 40, [(0, 5 ** 40)])
        # No word has fewer than 0 letters.
        self.check(BLOCKS, -1, [])
        self.check(BLOCKS, -2, [])

    def test_large_machines_are_answered_soon(self):
        source = random.Random(114)
        for actions in ((0, 1, 3, 5), (0, 1, 2, 3, 4, 5, 6)):
            steps = tuple((0, source.randrange(6), source.randrange(6), source.choice(actions)) for _ in range(100))
            with within_seconds(30):
                found = profile((6, 3, 1, steps, (0, 1, 2, 3, 4, 5), (0, 1)), 30)
            self.assertEqual([count for _, count in found], [1])
        for _ in range(5):
            machine = plain.random_machine(source, 6, 3, 4, 30)
            with within_seconds(30):
                try:
                    self.assertIs(type(profile(machine, 8)), list)
                except TooManyPossibilities:
                    pass


if __name__ == "__main__":
    unittest.main()

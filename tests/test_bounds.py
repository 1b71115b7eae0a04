"""Points 24 to 28: growth, words above a number, and the least bound."""

import random
import unittest

from mostspent.bounds import enough, least_bound, word_above
from mostspent.catalogues import verdict
from mostspent.costs import cost
from mostspent.errors import MostspentError, NoBound, TooManyPossibilities
from mostspent.recipes import tables_of, word_of
from tests import plain
from tests.test_costs import within_seconds, words
from tests.test_recipes import random_recipe

GROWS = "grows"

# Letter 0 increases counter 1, letter 1 sets it to 0.
BLOCKS = (1, 1, 2, ((0, 0, 0, 1), (1, 0, 0, 2)), (0,), (0,))

# Letters 0 and 1 increase counter 1 on the way to states 1 and 2, where there is no further step.
ONCE = (3, 1, 2, ((0, 0, 1, 1), (1, 0, 2, 0)), (0,), (1, 2))


def turning(states, lasts, more=0):
    """Letter 0 leads on from state to state, letters 1 and 2 increase counters 1 and 2, `more` letters do nothing.

    The search for n has states * ((n + 1) ** 2 + 1) possibilities, and one of words without runs if there are more
    letters: for each state the values of both counters up to n, and that there is no cheap run.
    """
    steps = tuple((0, k, (k + 1) % states, 0) for k in range(states))
    steps += tuple((letter, k, k, 2 * letter - 1) for letter in (1, 2) for k in range(states))
    return (states, 2, 3 + more, steps, (0,), lasts)


def depth(recipe, number=-1):
    """The depth of the line, as point 25 says it."""
    return 0 if recipe[number][0] == "letter" else 1 + max(depth(recipe, at) for at in recipe[number][1:])


def word_length(recipe, times):
    """How many letters the word of the recipe has."""
    lengths = []
    for word, *named in recipe:
        if word == "letter":
            lengths.append(1)
        else:
            lengths.append(sum(lengths[at] for at in named) * (times if word == "often" else 1))
    return lengths[-1]


class Growth(unittest.TestCase):
    def test_enough(self):
        self.assertEqual(enough((2, 2, 1, (), (), ()), 1), 10)
        for states in range(1, 8):
            for counters in range(4):
                machine = (states, counters, 1, (), (0,), (0,))
                for number in (0, 1, 2, 7, 20, 99, 100, 101, 500):
                    self.assertEqual(enough(machine, number), states * (number + 1) ** counters + 2)
                self.assertIs(type(enough(machine, 3)), int)

    def test_words_of_recipes_that_grow(self):
        many = {0: 0, 1: 0, 2: 0}
        for machine in plain.small_machines():
            answer = verdict(machine)
            if answer[0] == GROWS:
                for number in many:
                    for times in (enough(machine, number), enough(machine, number) + 1, 2 * enough(machine, number)):
                        if word_length(answer[2], times) <= 400:
                            self.assertGreater(cost(machine, word_of(answer[2], times)), number)
                            many[number] += 1
        self.assertGreater(min(many.values()), 40)

    def test_words_of_recipes_whose_best_value_is_an_action(self):
        source = random.Random(60)
        depths = {}
        for machine in plain.small_machines():
            for _ in range(8):
                recipe = random_recipe(source, machine[2], 8)
                table = tables_of(machine, recipe)[-1]
                if table is not None and plain.value_of(machine, table) not in (GROWS, None):
                    for times in (3, 4, 9):
                        if word_length(recipe, times) <= 250:
                            self.assertLessEqual(cost(machine, word_of(recipe, times)), 4 ** depth(recipe))
                            depths[depth(recipe)] = depths.get(depth(recipe), 0) + 1
        self.assertGreater(min(depths[number] for number in (0, 1, 2, 3)), 10)


class Searches(unittest.TestCase):
    def check(self, machine, number, expected):
        with self.subTest(machine=machine, number=number):
            self.assertEqual(word_above(machine, number), expected)

    def check_given_up(self, machine, number):
        with self.subTest(machine=machine, number=number), self.assertRaises(TooManyPossibilities) as caught:
            word_above(machine, number)
        self.assertIsInstance(caught.exception, MostspentError)


class WordsAbove(Searches):
    def test_one_counter(self):
        for number in range(21):
            self.check(BLOCKS, number, [0] * (number + 1))

    def test_any_counter(self):
        for counter in (1, 2, 3):
            machine = (1, 3, 2, ((0, 0, 0, 2 * counter), (1, 0, 0, 2 * counter - 1)), (0,), (0,))
            for number in (0, 1, 5, 20):
                self.check(machine, number, [1] * (number + 1))

    def test_no_accepted_word(self):
        for machine in (
            BLOCKS[:4] + ((), (0,)), BLOCKS[:4] + ((0,), ()), (1, 0, 1, (), (), ()), (2, 1, 4, (), (0,), (1,)),
        ):
            for number in (0, 1, 20):
                self.check(machine, number, None)

    def test_only_the_empty_word(self):
        for machine in ((1, 0, 1, (), (0,), (0,)), (2, 1, 1, ((0, 0, 1, 1),), (0,), (0,))):
            self.check(machine, 0, None)
            self.check(machine, 7, None)

    def test_no_counters(self):
        self.check((2, 0, 2, ((0, 0, 1, 0), (1, 1, 0, 0)), (0,), (0, 1)), 0, None)

    def test_the_shortest_words_come_first(self):
        # By letter 0 twice counter 1 is increased, by letter 1 three times.
        steps = ((0, 0, 1, 0), (0, 1, 1, 1), (1, 0, 2, 1), (1, 2, 2, 1))
        machine = (3, 1, 2, steps, (0,), (1, 2))
        self.check(machine, 0, [1])
        self.check(machine, 1, [1, 1])
        self.check(machine[:5] + ((1,),), 0, [0, 0])
        self.check(machine[:5] + ((1,),), 1, [0, 0, 0])

    def test_words_of_the_same_length_in_the_order_in_which_they_were_found(self):
        self.check(ONCE, 0, [0])
        self.check(ONCE[:3] + (((0, 0, 1, 0), (1, 0, 2, 1)), (0,), (1, 2)), 0, [1])
        # [0, 1] is found from [0], before [1, 0] is found from [1].
        steps = ((0, 0, 1, 0), (1, 0, 2, 0), (1, 1, 3, 1), (0, 2, 3, 1))
        self.check((4, 1, 2, steps, (0,), (3,)), 0, [0, 1])
        # With letters 0 and 1 in the places of each other it is still the one with the smaller letter first.
        swapped = tuple((1 - step[0],) + step[1:] for step in steps)
        self.check((4, 1, 2, swapped, (0,), (3,)), 0, [0, 1])
        # Letters 0 and 1 do the same, so that only words with letter 0 are looked at.
        same = ((1, 0, 0, 1), (0, 0, 0, 1), (2, 0, 0, 2))
        self.check((1, 1, 3, same, (0,), (0,)), 2, [0, 0, 0])

    def test_a_possibility_that_is_found_again_is_not_looked_at_again(self):
        # Over all words with the same number of letters 0 and of letters 1 the counters are the same.
        machine = (2, 2, 2, ((0, 0, 0, 3), (1, 0, 0, 1), (1, 0, 1, 1)), (0,), (1,))
        with within_seconds(20):
            # Counter 1 is above 2, or counter 2.
            self.check(machine, 2, [1, 1, 1])
            self.check(machine, 12, [1] * 13)

    def test_the_states_of_dear_runs_matter(self):
        # After letter 1 the cheap run is where it was, and there is a dear one, by way of which letter 2 accepts.
        machine = (3, 1, 3, ((0, 0, 0, 0), (1, 0, 0, 0), (1, 0, 1, 1), (2, 1, 2, 0)), (0,), (2,))
        self.check(machine, 0, [1, 2])
        self.check(machine, 1, None)

    def test_all_values_of_counters_matter_not_only_the_best(self):
        # After letter 0 counter 1 or counter 2 is 1; letters 1 and 2 increase the one or the other.
        steps = ((0, 0, 0, 1), (0, 0, 0, 3), (1, 0, 0, 1), (2, 0, 0, 3))
        machine = (1, 2, 3, steps, (0,), (0,))
        self.assertEqual(cost(machine, [0, 1]), 1)
        self.assertEqual(cost(machine, [0, 2]), 1)
        for number in (0, 1, 2, 3):
            self.check(machine, number, plain.word_above(machine, number, 1000))

    def test_random_machines(self):
        source = random.Random(61)
        kinds = {"none": 0, "short": 0, "long": 0, "given up": 0}
        for _ in range(1500):
            machine = plain.random_machine(source, 4, 3, 3, 14)
            for number in (0, 1, 2, 4):
                try:
                    expected = plain.word_above(machine, number, 300)
                except LookupError:
                    self.check_given_up(machine, number)
                    kinds["given up"] += 1
                    break
                self.check(machine, number, expected)
                kinds["none" if expected is None else "short" if len(expected) < 4 else "long"] += 1
        self.assertGreater(min(kinds.values()), 10)

    def test_random_machines_against_the_costs_of_all_short_words(self):
        source = random.Random(62)
        for _ in range(150):
            machine = plain.random_machine(source, 3, 2, 2, 8)
            for number in (0, 1):
                dear = [word for word in words(machine[2], 6) if (cost(machine, word) or 0) > number]
                try:
                    found = word_above(machine, number)
                except TooManyPossibilities:
                    continue
                if dear:
                    self.assertEqual((len(found), found in dear), (len(dear[0]), True))
                    self.assertGreaterEqual(found, dear[0])
                elif found is not None:
                    self.assertGreater(len(found), 6)
                    self.assertGreater(cost(machine, found), number)

    def test_the_word_is_a_new_list(self):
        for number in (0, 1, 2):
            found = word_above(BLOCKS, number)
            self.assertIs(type(found), list)
            found.append(1)
            self.assertEqual(word_above(BLOCKS, number), [0] * (number + 1))


class Possibilities(Searches):
    """Searches with about 300 possibilities."""

    def test_exactly_300_possibilities(self):
        self.check(turning(6, ()), 6, None)

    def test_the_possibility_of_words_without_runs_counts(self):
        self.check_given_up(turning(6, (), 1), 6)
        # With 5 states there are 250 and 251.
        self.check(turning(5, (), 1), 6, None)

    def test_more_than_300_possibilities(self):
        self.check_given_up(turning(6, ()), 7)
        self.check_given_up(turning(1, ()), 20)
        self.check(turning(1, ()), 16, None)
        self.check_given_up(turning(6, (), 1), 20)

    def test_a_word_above_that_is_looked_at_while_there_are_exactly_300(self):
        self.check(turning(3, (0,), 1), 12, [1] * 13)

    def test_a_word_above_that_is_found_but_not_looked_at_while_there_are_300(self):
        self.check_given_up(turning(3, (0,), 1), 13)
        # The word is the 273rd that is found; there are 301 words before it is looked at.
        self.check_given_up(turning(2, (0,)), 15)
        self.check(turning(2, (0,)), 14, [1] * 15)

    def test_a_word_above_that_is_looked_at_early(self):
        # The whole search would have 492 possibilities.
        self.check_given_up(turning(6, ()), 8)
        self.check(turning(6, (0,)), 8, [1] * 9)

    def test_more_counters_and_numbers(self):
        with within_seconds(20):
            for number in (20, 21, 25, 40):
                steps = ((0, 0, 0, 5), (0, 0, 0, 3), (0, 0, 0, 1), (0, 0, 1, 6), (0, 1, 0, 4))
                self.check((2, 3, 1, steps, (0,), (0, 1)), number, None)
                self.check(BLOCKS, number, [0] * (number + 1))
                self.check((1, 1, 1, ((0, 0, 0, 1),), (0,), (0,)), number, [0] * (number + 1))
        self.check((1, 1, 1, ((0, 0, 0, 1),), (0,), (0,)), 298, [0] * 299)
        self.check_given_up((1, 1, 1, ((0, 0, 0, 1),), (0,), (0,)), 400)

    def test_large_machines_are_answered_soon(self):
        source = random.Random(63)
        for letters in (1, 2, 4):
            for _ in range(5):
                machine = plain.random_machine(source, 6, 3, letters, 100)
                steps = tuple(step[:3] + (source.choice((1, 3, 5, 0)),) for step in machine[3])
                machine = (6, 3, letters, steps, (0, 1, 2), (3,))
                with within_seconds(20):
                    try:
                        self.assertNotEqual(word_above(machine, 20), [])
                    except TooManyPossibilities:
                        pass

    def test_a_number_below_its_limit(self):
        # No run costs less than 0.
        self.check(BLOCKS, -1, [])
        self.check((2, 0, 1, ((0, 0, 1, 0),), (0,), (1,)), -1, [0])
        self.check((2, 1, 1, ((0, 0, 1, 0),), (0,), (1,)), -2, [0])
        self.check((2, 1, 1, ((0, 0, 1, 0),), (), (1,)), -1, None)


class LeastBounds(unittest.TestCase):
    def check(self, machine, most, expected):
        with self.subTest(machine=machine, most=most):
            self.assertEqual(least_bound(machine, most), expected)

    def check_raises(self, machine, most, error):
        with self.subTest(machine=machine, most=most), self.assertRaises(error) as caught:
            least_bound(machine, most)
        self.assertIs(type(caught.exception), error)
        self.assertIsInstance(caught.exception, MostspentError)

    def test_no_accepted_word(self):
        for most in (0, 1, 20):
            self.check(BLOCKS[:4] + ((), (0,)), most, (0, None))
            self.check(BLOCKS[:4] + ((0,), ()), most, (0, None))
            self.check((3, 3, 4, (), (0,), (1, 2)), most, (0, None))

    def test_only_the_empty_word(self):
        self.check((1, 0, 1, (), (0,), (0,)), 0, (0, None))
        self.check((2, 1, 1, ((0, 0, 1, 1),), (0,), (0,)), 20, (0, None))

    def test_machines_by_hand(self):
        self.check(ONCE, 1, (1, [0]))
        self.check(ONCE, 20, (1, [0]))
        # Letter 0 k times costs k; from state 5 no step leads on.
        for states in range(1, 7):
            steps = tuple((0, k, k + 1, 1) for k in range(states - 1))
            machine = (states, 1, 1, steps, (0,), tuple(range(states)))
            worst = [0] * (states - 1) if states > 1 else None
            self.check(machine, 20, (states - 1, worst))
            self.check(machine, states - 1, (states - 1, worst))
        # Counter 1 is set to 0 at each third letter 0.
        machine = (3, 1, 1, ((0, 0, 1, 1), (0, 1, 2, 1), (0, 2, 0, 2)), (0,), (0, 1, 2))
        self.check(machine, 20, (2, [0, 0]))
        # Counter 2 is increased at each third letter, so that there is no bound.
        machine = (3, 2, 1, ((0, 0, 1, 1), (0, 1, 2, 1), (0, 2, 0, 3)), (0,), (0,))
        self.check_raises(machine, 20, NoBound)

    def test_no_bound(self):
        for most in (0, 1, 5, 20, 30):
            self.check_raises(BLOCKS, most, NoBound)
        self.check_raises(ONCE, 0, NoBound)
        self.check_raises(BLOCKS, -1, NoBound)
        self.check_raises((1, 0, 1, (), (), ()), -1, NoBound)

    def test_whichever_of_the_two_errors_comes_first(self):
        machine = turning(3, (0,), 1)
        self.check_raises(machine, 12, NoBound)
        for most in (13, 14, 20):
            self.check_raises(machine, most, TooManyPossibilities)
        # The bound is found before a number for which the search would be given up.
        self.check(turning(6, ()), 20, (0, None))

    def test_random_machines(self):
        source = random.Random(65)
        bounds = {0: 0, 1: 0, 2: 0}
        errors = {NoBound: 0, TooManyPossibilities: 0}
        for _ in range(700):
            machine = plain.random_machine(source, 4, 2, 2, 9)
            expected = self.searched(machine, 4)
            if type(expected) is tuple:
                self.check(machine, 4, expected)
                bounds[expected[0]] = bounds.get(expected[0], 0) + 1
                if expected[0] > 0:
                    self.assertEqual(cost(machine, expected[1]), expected[0])
            else:
                self.check_raises(machine, 4, expected)
                errors[expected] += 1
        self.assertGreater(min(list(bounds.values()) + list(errors.values())), 0)

    def searched(self, machine, most):
        """What `least_bound` should return, or the class of the error that it should raise."""
        worst = None
        for number in range(most + 1):
            try:
                above = plain.word_above(machine, number, 300)
            except LookupError:
                return TooManyPossibilities
            if above is None:
                return (number, worst)
            worst = above
        return NoBound

    def test_the_verdict_tells_whether_there_is_a_bound(self):
        answers = {"bounded": 0, GROWS: 0}
        for machine in plain.small_machines():
            answer = verdict(machine)[0]
            try:
                bound, worst = least_bound(machine, 6)
            except NoBound:
                self.assertEqual(answer, GROWS)
            except TooManyPossibilities:
                continue
            else:
                self.assertEqual(answer, "bounded")
                self.assertEqual(worst is None, bound == 0)
            answers[answer] += 1
        self.assertGreater(min(answers.values()), 30)

    def test_the_kinds_of_values_and_a_new_list_each_time(self):
        found = least_bound(ONCE, 3)
        self.assertIs(type(found), tuple)
        self.assertEqual([type(part) for part in found], [int, list])
        found[1].clear()
        self.assertEqual(least_bound(ONCE, 3), (1, [0]))


if __name__ == "__main__":
    unittest.main()

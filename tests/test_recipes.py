"""Points 15 and 16: the tables of the lines of recipes, and the words that recipes give."""

import random
import unittest

from mostspent.errors import WordTooLong
from mostspent.recipes import tables_of, word_of
from tests import plain
from tests.test_costs import within_seconds

GROWS = "grows"

# Letter 0 leads from state 0 to state 1 for free and back at a price, letter 1 stays at state 0 at a price.
MACHINE = (2, 1, 2, ((0, 0, 1, 0), (0, 1, 0, 1), (1, 0, 0, 1)), (0,), (0,))
ZERO = ((None, 0), (1, None))
ONE = ((1, None), (None, None))

DOUBLING = (("letter", 0),) + tuple(("both", k, k) for k in range(999))


def random_recipe(source, letters, many):
    """A recipe of at most this many lines."""
    lines = [("letter", source.randrange(letters))]
    for number in range(1, source.randint(1, many)):
        named = (source.randrange(number), source.randrange(number))
        lines.append(source.choice((("letter", source.randrange(letters)), ("both", *named), ("often", named[0]))))
    return tuple(lines)


def plain_tables(machine, recipe):
    """What `tables_of` returns, found with the tables of tests/plain.py."""
    found = []
    for line in recipe:
        found.append(plain.table_of(machine, line, found))
    return found


def plain_word(recipe, times, number=-1):
    """The word of the line with this number, from the last line backwards."""
    word, *named = recipe[number]
    if word == "letter":
        return named
    parts = [plain_word(recipe, times, at) for at in named]
    return parts[0] + parts[1] if word == "both" else parts[0] * times


class Tables(unittest.TestCase):
    def test_letters(self):
        self.assertEqual(tables_of(MACHINE, (("letter", 0),)), [ZERO])
        self.assertEqual(tables_of(MACHINE, (("letter", 1), ("letter", 0), ("letter", 1))), [ONE, ZERO, ONE])

    def test_both(self):
        recipe = (("letter", 0), ("letter", 1), ("both", 0, 1), ("both", 1, 0), ("both", 0, 0), ("both", 2, 3))
        expected = [ZERO, ONE, ((None, None), (1, None)), ((None, 1), (None, None)), ((1, None), (None, 1))]
        self.assertEqual(tables_of(MACHINE, recipe), expected + [((None, None), (None, 1))])

    def test_often(self):
        recipe = (("letter", 0), ("letter", 1), ("often", 1), ("both", 0, 0), ("often", 3), ("often", 4))
        grown = ((GROWS, None), (None, GROWS))
        expected = [ZERO, ONE, ((GROWS, None), (None, None)), ((1, None), (None, 1)), grown, grown]
        self.assertEqual(tables_of(MACHINE, recipe), expected)

    def test_a_letter_that_the_machine_does_not_have(self):
        recipe = tuple(("letter", letter) for letter in (0, 1, 2, 3, 0))
        for letters in (1, 2, 3, 4):
            machine = (1, 0, letters, ((0, 0, 0, 0),), (0,), (0,))
            expected = [((0,),), ((None,),), ((None,),), ((None,),)]
            expected[letters:] = [None] * (4 - letters)
            self.assertEqual(tables_of(machine, recipe), expected + [((0,),)])

    def test_often_of_a_table_that_is_not_stable(self):
        self.assertEqual(tables_of(MACHINE, (("letter", 0), ("often", 0), ("letter", 1))), [ZERO, None, ONE])

    def test_lines_that_name_a_line_without_a_table(self):
        recipe = (
            ("letter", 1), ("letter", 2), ("both", 1, 0), ("both", 0, 1), ("both", 1, 1), ("often", 1),
            ("both", 0, 0), ("often", 2), ("both", 3, 0), ("both", 6, 7), ("often", 0), ("both", 0, 8),
        )
        grown = ((GROWS, None), (None, None))
        expected = [ONE, None, None, None, None, None, ONE, None, None, None, grown, None]
        self.assertEqual(tables_of(MACHINE, recipe), expected)

    def test_random_recipes(self):
        source = random.Random(20)
        kinds = {"without": 0, "with": 0}
        for _ in range(300):
            machine = plain.random_machine(source, 3, 2, 3, 8)
            recipe = random_recipe(source, 3, 15)
            expected = plain_tables(machine, recipe)
            self.assertEqual(tables_of(machine, recipe), expected)
            kinds["without"] += expected.count(None)
            kinds["with"] += len(expected) - expected.count(None)
        self.assertGreater(min(kinds.values()), 300)

    def test_1000_lines(self):
        source = random.Random(21)
        machine = plain.random_machine(source, 6, 3, 4, 100)
        with within_seconds(20):
            self.assertEqual(len(tables_of(machine, DOUBLING)), 1000)
        self.assertEqual(tables_of(MACHINE, DOUBLING)[:2], [ZERO, ((1, None), (None, 1))])
        self.assertEqual(tables_of(MACHINE, DOUBLING)[2:], [((1, None), (None, 1))] * 998)

    def test_a_new_list_each_time(self):
        recipe = (("letter", 0), ("letter", 1))
        found = tables_of(MACHINE, recipe)
        self.assertIs(type(found), list)
        found.clear()
        self.assertEqual(tables_of(MACHINE, recipe), [ZERO, ONE])


class Words(unittest.TestCase):
    def check(self, recipe, times, expected):
        # Not assertEqual, which would look very long for the differences of very long lists.
        self.assertTrue(word_of(recipe, times) == expected, (recipe[:20], times, expected[:20], len(expected)))

    def check_too_long(self, recipe, times):
        with within_seconds(10), self.assertRaises(WordTooLong):
            word_of(recipe, times)

    def test_the_example_of_the_interface(self):
        self.assertEqual(word_of((("letter", 0), ("often", 0), ("both", 1, 0)), 2), [0, 0, 0])

    def test_letters(self):
        for letter in range(4):
            for times in (1, 2, 1000):
                self.assertEqual(word_of((("letter", letter),), times), [letter])

    def test_both_keeps_the_order(self):
        recipe = (("letter", 2), ("letter", 0), ("both", 0, 1), ("both", 1, 0), ("both", 3, 2))
        self.assertEqual([word_of(recipe[:many], 7) for many in (3, 4, 5)], [[2, 0], [0, 2], [0, 2, 2, 0]])

    def test_the_last_line_counts(self):
        recipe = (("letter", 1), ("letter", 3), ("both", 0, 1), ("letter", 0))
        self.assertEqual([word_of(recipe[:many], 1) for many in (1, 2, 3, 4)], [[1], [3], [1, 3], [0]])

    def test_times(self):
        recipe = (("letter", 0), ("letter", 1), ("both", 0, 1), ("often", 2), ("both", 3, 0))
        for times in (1, 2, 3, 50, 1000):
            self.check(recipe, times, [0, 1] * times + [0])

    def test_nested_often(self):
        recipe = (("letter", 0), ("often", 0), ("letter", 1), ("both", 1, 2), ("often", 3))
        self.assertEqual(word_of(recipe, 1), [0, 1])
        self.assertEqual(word_of(recipe, 2), [0, 0, 1, 0, 0, 1])
        self.assertEqual(word_of(recipe, 3), [0, 0, 0, 1] * 3)
        self.assertEqual(word_of((("letter", 3), ("often", 0), ("often", 1), ("often", 2)), 3), [3] * 27)

    def test_a_word_of_10000_letters_and_one_of_10001(self):
        # The words of the lines have 1, 2, 4, 8, 10 and 10 * times letters, then one more.
        recipe = (("letter", 1),) + tuple(("both", k, k) for k in range(3)) + (("both", 3, 1), ("often", 4), ("both", 5, 0))
        self.check(recipe[:6], 1000, [1] * 10000)
        self.check_too_long(recipe, 1000)
        self.check(recipe, 999, [1] * 9991)
        nested = (("letter", 0), ("often", 0), ("often", 1), ("letter", 2), ("both", 2, 3), ("both", 3, 2))
        self.check(nested[:3], 100, [0] * 10000)
        self.check_too_long(nested[:3], 101)
        self.check_too_long(nested[:5], 100)
        self.check_too_long(nested, 100)
        self.check(nested, 99, [2] + [0] * 9801)
        self.check(DOUBLING[:14], 5, [0] * 8192)
        self.check_too_long(DOUBLING[:15], 5)

    def test_lines_that_the_last_one_does_not_need(self):
        with within_seconds(10):
            self.assertEqual(word_of(DOUBLING + (("letter", 3),), 1000), [3])
            self.assertEqual(word_of(DOUBLING + (("both", 0, 1), ("often", 1000)), 3), [0] * 9)
            long = (("letter", 1), ("often", 0), ("often", 1), ("often", 2), ("both", 0, 1))
            self.check(long, 1000, [1] * 1001)

    def test_1000_lines_are_answered_at_once(self):
        self.check_too_long(DOUBLING, 1)
        self.check_too_long((("letter", 0),) + tuple(("often", k) for k in range(999)), 1000)
        self.check_too_long((("letter", 0), ("often", 0)) + tuple(("both", k, k - 1) for k in range(1, 999)), 1000)
        with within_seconds(10):
            self.assertEqual(word_of((("letter", 2),) + tuple(("often", k) for k in range(999)), 1), [2])
            self.check((("letter", 2),) + tuple(("both", k, 0) for k in range(999)), 1, [2] * 1000)

    def test_many_lines_with_long_words(self):
        recipe = DOUBLING[:14] + tuple(("often", k) for k in range(13, 999))
        with within_seconds(10):
            self.check(recipe, 1, [0] * 8192)

    def test_the_machine_and_the_tables_do_not_matter(self):
        # No table of letter 3 or of a repeated line is needed for the word.
        self.assertEqual(word_of((("letter", 3), ("letter", 0), ("both", 0, 1), ("often", 2)), 2), [3, 0, 3, 0])

    def test_random_recipes(self):
        source = random.Random(22)
        for _ in range(300):
            recipe = random_recipe(source, 4, 9)
            times = source.randint(1, 3)
            expected = plain_word(recipe, times)
            if len(expected) <= 10000:
                self.check(recipe, times, expected)
            else:
                self.check_too_long(recipe, times)

    def test_a_new_list_each_time(self):
        for recipe in ((("letter", 0),), (("letter", 0), ("often", 0)), (("letter", 0), ("both", 0, 0))):
            found = word_of(recipe, 1)
            self.assertIs(type(found), list)
            expected = list(found)
            found.append(3)
            self.assertEqual(word_of(recipe, 1), expected)

    def test_somewhat_more_than_the_limits_raises_no_error(self):
        self.check((("letter", 4), ("often", 0)), 1200, [4] * 1200)
        self.assertEqual(word_of((("letter", 0), ("often", 0), ("both", 0, 1)), 0), [0])
        self.assertEqual(word_of((("letter", 0),) * 1100, 1), [0])

    def test_a_recipe_without_lines_raises_no_error(self):
        for times in (0, 1, 2, 3, 1000, 1001):
            found = word_of((), times)
            self.assertEqual(found, [])
            found.append(0)
            self.assertEqual(word_of((), times), [])
        self.assertEqual(tables_of(MACHINE, ()), [])

    def test_letters_beyond_those_of_all_machines_have_no_table(self):
        for letter in (-1, 4, 5):
            self.assertEqual(tables_of(MACHINE, (("letter", letter), ("both", 0, 0), ("letter", 1))), [None, None, ONE])


if __name__ == "__main__":
    unittest.main()

"""Points 9 to 14 and the best value of point 18: values, tables, sequences and repetitions."""

import itertools
import random
import unittest

from mostspent.tables import along, best, best_value, in_sequence, is_stable, letter_table, repeated
from tests import plain
from tests.plain import ORDER

GROWS = "grows"


def values_of_table(table):
    """All values of the table in one list."""
    return [value for row in table for value in row]


class Values(unittest.TestCase):
    def test_the_whole_order_of_values(self):
        self.assertEqual(ORDER, [6, 4, 2, 0, 1, 3, 5, GROWS, None])
        for better, worse in itertools.combinations(ORDER, 2):
            with self.subTest(better=better, worse=worse):
                self.assertEqual(best([better, worse]), better)
                self.assertEqual(best([worse, better]), better)

    def test_the_best_of_no_values(self):
        self.assertIsNone(best([]))

    def test_the_best_of_one_value(self):
        for value in ORDER:
            self.assertEqual(best([value]), value)
            self.assertEqual(best([value] * 3), value)

    def test_the_best_of_several_values_in_any_order(self):
        source = random.Random(10)
        for many in range(1, len(ORDER) + 1):
            for chosen in itertools.combinations(ORDER, many):
                values = list(chosen) + [source.choice(chosen)]
                source.shuffle(values)
                self.assertEqual(best(values), chosen[0])

    def test_0_is_an_even_action_and_not_none(self):
        self.assertEqual(best([1, 0]), 0)
        self.assertEqual(best([None, 0]), 0)
        self.assertEqual(best([2, 0]), 2)
        self.assertEqual(along(0, 0), 0)
        self.assertEqual(along(0, GROWS), GROWS)

    def test_none_in_sequence(self):
        for value in ORDER:
            self.assertIsNone(along(None, value))
            self.assertIsNone(along(value, None))

    def test_grows_in_sequence(self):
        for value in ORDER[:-1]:
            self.assertEqual(along(GROWS, value), GROWS)
            self.assertEqual(along(value, GROWS), GROWS)

    def test_two_actions_in_sequence(self):
        for first, second in itertools.product(range(7), repeat=2):
            self.assertEqual(along(first, second), first if first > second else second)

    def test_the_list_that_is_passed_stays(self):
        values = [1, None, 4, GROWS, 4, 0]
        best(values)
        self.assertEqual(values, [1, None, 4, GROWS, 4, 0])


class Letters(unittest.TestCase):
    def test_a_machine_with_no_steps(self):
        self.assertEqual(letter_table((1, 0, 1, (), (0,), (0,)), 0), ((None,),))
        self.assertEqual(letter_table((2, 3, 4, (), (), ()), 3), ((None, None), (None, None)))

    def test_rows_are_the_states_before_and_indexes_those_after(self):
        machine = (3, 1, 1, ((0, 0, 1, 1), (0, 2, 0, 2), (0, 1, 1, 0)), (0,), (0,))
        self.assertEqual(letter_table(machine, 0), ((None, 1, None), (None, 0, None), (2, None, None)))

    def test_only_steps_by_the_letter_count(self):
        machine = (1, 2, 3, ((0, 0, 0, 1), (2, 0, 0, 3), (2, 0, 0, 4)), (0,), (0,))
        self.assertEqual([letter_table(machine, letter) for letter in range(3)], [((1,),), ((None,),), ((4,),)])

    def test_the_best_of_several_actions(self):
        for many in range(1, 8):
            for actions in itertools.permutations(range(7), many) if many < 4 else itertools.combinations(range(7), many):
                machine = (2, 3, 1, tuple((0, 1, 0, action) for action in actions), (0,), (0,))
                expected = [action for action in ORDER if action in actions][0]
                self.assertEqual(letter_table(machine, 0), ((None, None), (expected, None)))

    def test_the_same_step_twice(self):
        for action in range(7):
            self.assertEqual(letter_table((1, 3, 1, ((0, 0, 0, action),) * 2, (0,), (0,)), 0), ((action,),))

    def test_firsts_and_lasts_do_not_matter(self):
        steps = ((0, 0, 1, 1), (0, 1, 0, 2))
        for ends in ((), (0,), (1, 0)):
            self.assertEqual(letter_table((2, 1, 1, steps, ends, ()), 0), ((None, 1), (2, None)))
            self.assertEqual(letter_table((2, 1, 1, steps, (), ends), 0), ((None, 1), (2, None)))

    def test_random_machines(self):
        source = random.Random(12)
        for _ in range(200):
            machine = plain.random_machine(source, 6, 3, 4, 60)
            for letter in range(machine[2]):
                self.assertEqual(letter_table(machine, letter), plain.of_letter(machine, letter))


class Sequences(unittest.TestCase):
    def test_the_example_of_the_interface(self):
        self.assertEqual(in_sequence(((1, 0), (None, 2)), ((2, 1), (0, None))), ((2, 1), (2, None)))

    def test_tables_of_one_state(self):
        for first, second in itertools.product(ORDER, repeat=2):
            self.assertEqual(in_sequence(((first,),), ((second,),)), ((plain.along(first, second),),))

    def test_the_first_table_comes_first(self):
        first = ((None, 1), (None, None))
        second = ((None, None), (3, None))
        self.assertEqual(in_sequence(first, second), ((3, None), (None, None)))
        self.assertEqual(in_sequence(second, first), ((None, None), (None, 3)))

    def test_the_best_way_is_taken(self):
        first = ((1, 2, 5), (None, None, None), (None, None, None))
        for middle, expected in (((3, 4, 6), 6), ((0, 1, 0), 2), ((0, GROWS, None), 1), ((GROWS, None, 4), 5)):
            second = tuple((value, None, None) for value in middle)
            with self.subTest(middle=middle):
                self.assertEqual(in_sequence(first, second)[0], (expected, None, None))
                self.assertEqual(in_sequence(first, second)[1:], ((None,) * 3,) * 2)

    def test_values_that_are_none_all_over(self):
        source = random.Random(13)
        for size in (1, 2, 6):
            empty = ((None,) * size,) * size
            self.assertEqual(in_sequence(empty, empty), empty)
            for _ in range(10):
                table = plain.random_table(source, size)
                self.assertEqual(in_sequence(empty, table), empty)
                self.assertEqual(in_sequence(table, empty), empty)

    def test_random_tables(self):
        source = random.Random(14)
        for size in range(1, 8):
            for _ in range(60):
                first, second = plain.random_table(source, size), plain.random_table(source, size)
                self.assertEqual(in_sequence(first, second), plain.sequence(first, second))

    def test_three_tables_in_sequence_do_not_depend_on_where_one_begins(self):
        source = random.Random(15)
        for _ in range(100):
            first, second, third = (plain.random_table(source, 3) for _ in range(3))
            self.assertEqual(
                in_sequence(in_sequence(first, second), third), in_sequence(first, in_sequence(second, third))
            )


class Stable(unittest.TestCase):
    def test_stable_tables(self):
        for table in (
            ((None,),), ((0,),), ((1,),), ((5,),), ((6,),), ((GROWS,),),
            ((1, None), (None, 0)),
            ((1, 2), (None, 1)),
            ((2, 2), (2, 2)),
            ((None, None), (None, None)),
            ((GROWS, None), (GROWS, GROWS)),
        ):
            with self.subTest(table=table):
                self.assertIs(is_stable(table), True)

    def test_unstable_tables(self):
        for table in (
            ((None, 1), (None, None)),
            ((None, 1), (1, None)),
            ((1, 0), (None, 1)),
            ((0, 0), (2, 0)),
            ((0, 0, None), (None, 0, 0), (None, None, 0)),
            ((GROWS, 1), (None, None)),
        ):
            with self.subTest(table=table):
                self.assertIs(is_stable(table), False)

    def test_random_tables(self):
        source = random.Random(16)
        answers = {True: 0, False: 0}
        for _ in range(500):
            table = plain.random_table(source, source.randint(1, 3))
            expected = plain.sequence(table, table) == table
            self.assertIs(is_stable(table), expected)
            answers[expected] += 1
        self.assertGreater(min(answers.values()), 50)


class Repeated(unittest.TestCase):
    def test_the_example_of_the_interface(self):
        self.assertEqual(repeated(((1, None), (None, 0))), ((GROWS, None), (None, 0)))

    def test_tables_of_one_state(self):
        results = {0: 0, 2: 2, 4: 4, 6: 6, 1: GROWS, 3: GROWS, 5: GROWS, GROWS: GROWS, None: None}
        for value, expected in results.items():
            self.assertEqual(repeated(((value,),)), ((expected,),))

    def test_all_three_values_count(self):
        # From 0 to 0 at best by staying at 1, where this is free; the ways there and back cost 3.
        table = ((3, 3), (3, 0))
        self.assertTrue(is_stable(table))
        self.assertEqual(repeated(table), ((3, 3), (3, 0)))
        # Staying at 1 sets counter 2 to 0, so that its odd ways there and back are no matter.
        table = ((4, 4), (4, 4))
        self.assertEqual(repeated(table), table)

    def test_staying_with_an_odd_action_grows(self):
        self.assertEqual(repeated(((1, 2), (None, 1))), ((GROWS, GROWS), (None, GROWS)))
        self.assertEqual(repeated(((3, 3), (3, 3))), ((GROWS, GROWS), (GROWS, GROWS)))

    def test_a_way_on_which_nothing_stays_ends_in_none(self):
        # From 0 to 2 there are runs only through 1, where one can stay or not.
        self.assertEqual(
            repeated(((None, 1, 1), (None, 0, 0), (None, None, None))),
            ((None, 1, 1), (None, 0, 0), (None, None, None)),
        )
        self.assertEqual(
            repeated(((None, 1, 1), (None, 1, 1), (None, None, None))),
            ((None, GROWS, GROWS), (None, GROWS, GROWS), (None, None, None)),
        )

    def test_values_that_are_none_all_over(self):
        for size in (1, 2, 6):
            empty = ((None,) * size,) * size
            self.assertEqual(repeated(empty), empty)

    def test_random_stable_tables(self):
        source = random.Random(17)
        for size in range(1, 7):
            for table in plain.stable_tables(source, size, 60):
                self.assertTrue(is_stable(table))
                self.assertEqual(repeated(table), plain.again(table))

    def test_the_table_that_is_passed_stays(self):
        source = random.Random(18)
        for table in plain.stable_tables(source, 3, 20):
            copy = tuple(tuple(row) for row in table)
            repeated(table)
            is_stable(table)
            in_sequence(table, table)
            self.assertEqual(table, copy)


class BestValues(unittest.TestCase):
    TABLE = ((1, GROWS, 3), (None, 0, 5), (4, None, GROWS))

    def check(self, firsts, lasts, expected):
        with self.subTest(firsts=firsts, lasts=lasts):
            self.assertEqual(best_value((3, 3, 1, (), firsts, lasts), self.TABLE), expected)

    def test_empty_firsts_or_lasts(self):
        self.check((), (0, 1, 2), None)
        self.check((0, 1, 2), (), None)
        self.check((), (), None)

    def test_one_first_and_one_last(self):
        for first, last in itertools.product(range(3), repeat=2):
            self.check((first,), (last,), self.TABLE[first][last])

    def test_several_firsts_and_lasts(self):
        self.check((0, 1, 2), (0, 1, 2), 4)
        self.check((2, 1, 0), (1, 2, 0), 4)
        self.check((0, 1), (0, 1, 2), 0)
        self.check((0,), (0, 1, 2), 1)
        self.check((0, 2), (2, 1), 3)
        self.check((0, 2), (1,), GROWS)
        self.check((2,), (1, 2), GROWS)
        self.check((1,), (2, 0), 5)
        self.check((1,), (0,), None)

    def test_random_tables(self):
        source = random.Random(19)
        for _ in range(200):
            machine = plain.random_machine(source, 6, 3, 1, 0)
            table = plain.random_table(source, machine[0])
            self.assertEqual(best_value(machine, table), plain.value_of(machine, table))


class Kinds(unittest.TestCase):
    def test_tables_are_tuples_of_tuples_of_values(self):
        machine = (2, 1, 1, ((0, 0, 1, 1), (0, 1, 1, 2)), (0,), (1,))
        table = letter_table(machine, 0)
        for made in (table, in_sequence(table, table), repeated(((1, None), (None, 0)))):
            self.assertIs(type(made), tuple)
            self.assertEqual([type(row) for row in made], [tuple, tuple])
            for value in values_of_table(made):
                self.assertIn(type(value), (int, str, type(None)))

    def test_somewhat_more_than_the_limits_raises_no_error(self):
        self.assertEqual(best([7, 8, 6]), 8)
        self.assertEqual(best([7, 5]), 5)
        self.assertEqual(along(8, 7), 8)
        self.assertEqual(in_sequence(((8, 7), (None, 7)), ((7, None), (8, 8))), ((8, 8), (8, 8)))
        steps = tuple((0, k % 7, (k + 1) % 7, 1) for k in range(140))
        table = letter_table((7, 1, 1, steps, (0,), (3,)), 0)
        self.assertEqual([row.index(1) for row in table], [1, 2, 3, 4, 5, 6, 0])


if __name__ == "__main__":
    unittest.main()

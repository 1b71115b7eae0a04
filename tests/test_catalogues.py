"""Points 17 to 19: catalogues, verdicts and their recipes, and that verdicts agree with the costs of words."""

import random
import unittest

from mostspent.catalogues import catalogue, verdict
from mostspent.costs import cost
from mostspent.errors import MostspentError, TooManyTables
from mostspent.recipes import tables_of, word_of
from tests import plain
from tests.test_costs import within_seconds

GROWS = "grows"

# Letter 0 increases counter 1, letter 1 sets it to 0.
BLOCKS = (1, 1, 2, ((0, 0, 0, 1), (1, 0, 0, 2)), (0,), (0,))

# Letter 0 leads from state 0 to state 1, letter 1 back.
THERE_AND_BACK = (2, 0, 2, ((0, 0, 1, 0), (1, 1, 0, 0)), (0,), (0,))

# Counter 1 is increased by all letters but one, at which it is set to 0.
ONE_RESET = (2, 1, 1, ((0, 0, 0, 1), (0, 0, 1, 2), (0, 1, 1, 1)), (0,), (1,))

# Letters 0 and 1 increase counter 1 and counter 2, letter 2 sets both to 0.
TWO_COUNTERS = (1, 2, 3, ((0, 0, 0, 1), (1, 0, 0, 3), (2, 0, 0, 4)), (0,), (0,))

# The catalogue of the one has 100 entries, that of the other would have 101.
WITH_100 = (
    3, 1, 2, ((0, 0, 0, 2), (0, 2, 0, 2), (0, 2, 1, 2), (1, 1, 2, 1), (1, 0, 1, 1), (0, 1, 1, 1)), (0,), (2,)
)
WITH_101 = (
    3, 1, 2, ((1, 2, 1, 0), (0, 2, 1, 2), (0, 2, 2, 1), (1, 1, 2, 1), (0, 1, 0, 1), (1, 0, 1, 0)), (0,), (2,)
)


def growing(machine, entries):
    """The numbers of the entries whose tables grow."""
    return [number for number, (_, table) in enumerate(entries) if plain.value_of(machine, table) == GROWS]


class ByHand(unittest.TestCase):
    def check(self, machine, expected):
        self.assertEqual(catalogue(machine), expected)

    def test_one_state(self):
        self.check(BLOCKS, [(("letter", 0), ((1,),)), (("letter", 1), ((2,),)), (("often", 0), ((GROWS,),))])

    def test_no_steps(self):
        self.check((1, 0, 1, (), (0,), (0,)), [(("letter", 0), ((None,),))])
        self.check((2, 3, 4, (), (), ()), [(("letter", 0), ((None, None), (None, None)))])

    def test_a_free_step(self):
        self.check((1, 0, 1, ((0, 0, 0, 0),), (0,), (0,)), [(("letter", 0), ((0,),))])

    def test_only_stable_tables_are_repeated(self):
        self.check(
            (1, 2, 2, ((0, 0, 0, 3),), (0,), (0,)),
            [(("letter", 0), ((3,),)), (("letter", 1), ((None,),)), (("often", 0), ((GROWS,),))],
        )
        # The table of letter 0 is not stable, that of twice letter 0 is.
        machine = (2, 1, 1, ((0, 0, 0, 1), (0, 0, 1, 0), (0, 1, 1, 2)), (0,), (1,))
        self.check(
            machine,
            [
                (("letter", 0), ((1, 0), (None, 2))),
                (("both", 0, 0), ((1, 2), (None, 2))),
                (("often", 1), ((GROWS, 2), (None, 2))),
            ],
        )

    def test_the_newer_entry_stands_first_at_first(self):
        self.check(
            THERE_AND_BACK,
            [
                (("letter", 0), ((None, 0), (None, None))),
                (("letter", 1), ((None, None), (0, None))),
                (("both", 0, 0), ((None, None), (None, None))),
                (("both", 1, 0), ((None, None), (None, 0))),
                (("both", 0, 1), ((0, None), (None, None))),
            ],
        )

    def test_a_stable_letter_with_a_choice(self):
        self.check(
            ONE_RESET,
            [(("letter", 0), ((1, 2), (None, 1))), (("often", 0), ((GROWS, GROWS), (None, GROWS)))],
        )

    def test_a_table_that_two_ways_give_stands_there_once(self):
        self.check(
            TWO_COUNTERS,
            [
                (("letter", 0), ((1,),)),
                (("letter", 1), ((3,),)),
                (("letter", 2), ((4,),)),
                (("often", 0), ((GROWS,),)),
            ],
        )

    def test_letters_with_equal_tables(self):
        machine = (1, 1, 3, ((0, 0, 0, 1), (1, 0, 0, 1), (2, 0, 0, 0)), (0,), (0,))
        self.check(machine, [(("letter", 0), ((1,),)), (("letter", 2), ((0,),)), (("often", 0), ((GROWS,),))])
        machine = (2, 0, 4, tuple((letter, 0, 1, 0) for letter in range(4)), (0,), (1,))
        self.check(
            machine,
            [(("letter", 0), ((None, 0), (None, None))), (("both", 0, 0), ((None, None), (None, None)))],
        )

    def test_a_letter_whose_powers_go_round(self):
        # Entry 2 is stable: its repetition comes before the sequences, of which the first is there already.
        machine = (3, 1, 1, ((0, 0, 1, 0), (0, 1, 2, 0), (0, 2, 0, 1)), (0,), (0,))
        none = None
        self.check(
            machine,
            [
                (("letter", 0), ((none, 0, none), (none, none, 0), (1, none, none))),
                (("both", 0, 0), ((none, none, 0), (1, none, none), (none, 1, none))),
                (("both", 1, 0), ((1, none, none), (none, 1, none), (none, none, 1))),
                (("both", 1, 1), ((none, 1, none), (none, none, 1), (1, none, none))),
                (("often", 2), ((GROWS, none, none), (none, GROWS, none), (none, none, GROWS))),
                (("both", 2, 1), ((none, none, 1), (1, none, none), (none, 1, none))),
                (("both", 4, 0), ((none, GROWS, none), (none, none, GROWS), (GROWS, none, none))),
                (("both", 4, 1), ((none, none, GROWS), (GROWS, none, none), (none, GROWS, none))),
            ],
        )


class Catalogues(unittest.TestCase):
    def test_all_tables_stand_there_once(self):
        for machine in plain.small_machines():
            tables = [table for _, table in catalogue(machine)]
            self.assertEqual(set(tables), plain.all_tables(machine, 100))
            self.assertEqual(len(set(tables)), len(tables))

    def test_each_line_gives_its_table(self):
        for machine in plain.small_machines():
            entries = catalogue(machine)
            self.assertEqual(tables_of(machine, tuple(made for made, _ in entries)), [table for _, table in entries])
            for number, (made, _) in enumerate(entries):
                if made[0] != "letter":
                    self.assertLess(max(made[1:]), number)

    def test_each_entry_is_made_in_the_first_way(self):
        for machine in plain.small_machines() + [WITH_100]:
            self.assertEqual(catalogue(machine), plain.listed(machine))

    def test_exactly_100_entries(self):
        self.assertEqual(len(plain.all_tables(WITH_100, 100)), 100)
        with within_seconds(20):
            entries = catalogue(WITH_100)
            answer = verdict(WITH_100)
        self.assertEqual(len(entries), 100)
        self.assertEqual({table for _, table in entries}, plain.all_tables(WITH_100, 100))
        self.assertEqual(answer[:2], (GROWS, 100))

    def test_more_than_100_entries(self):
        self.assertIsNone(plain.all_tables(WITH_101, 100))
        self.assertEqual(len(plain.all_tables(WITH_101, 101)), 101)
        for function in (catalogue, verdict):
            with self.subTest(function=function.__name__), within_seconds(20):
                with self.assertRaises(TooManyTables) as caught:
                    function(WITH_101)
                self.assertIsInstance(caught.exception, MostspentError)

    def test_large_machines_are_answered_soon(self):
        source = random.Random(33)
        answers = {True: 0, False: 0}
        for _ in range(30):
            machine = plain.random_machine(source, 6, 3, 4, 30)
            with within_seconds(20):
                try:
                    answers[len(catalogue(machine)) <= 100] += 1
                except TooManyTables:
                    answers[False] += 1
        self.assertGreater(min(answers.values()), 0)

    def test_the_kinds_of_values_and_a_new_list_each_time(self):
        entries = catalogue(ONE_RESET)
        self.assertIs(type(entries), list)
        for entry in entries:
            self.assertEqual([type(part) for part in entry], [tuple, tuple])
            self.assertIs(type(entry), tuple)
        expected = list(entries)
        entries.clear()
        self.assertEqual(catalogue(ONE_RESET), expected)

    def test_seven_states(self):
        steps = tuple((0, k, (k + 1) % 7, 2) for k in range(7))
        self.assertEqual(verdict((7, 1, 1, steps, (0,), (0, 3))), ("bounded", 7))


class Verdicts(unittest.TestCase):
    def test_bounded_machines(self):
        self.assertEqual(verdict((1, 1, 1, ((0, 0, 0, 2),), (0,), (0,))), ("bounded", 1))
        self.assertEqual(verdict((1, 0, 4, (), (0,), (0,))), ("bounded", 1))
        self.assertEqual(verdict(THERE_AND_BACK), ("bounded", 5))
        # The runs of letter 0 set counter 1 to 0 at each second step.
        self.assertEqual(verdict((2, 1, 1, ((0, 0, 1, 1), (0, 1, 0, 2)), (0,), (0, 1))), ("bounded", 3))

    def test_machines_that_grow(self):
        self.assertEqual(verdict(BLOCKS), (GROWS, 3, (("letter", 0), ("often", 0))))
        self.assertEqual(verdict(ONE_RESET), (GROWS, 2, (("letter", 0), ("often", 0))))

    def test_a_table_grows_only_from_a_first_state_to_a_last_one(self):
        for firsts, lasts in (((), (0,)), ((0,), ()), ((), ())):
            self.assertEqual(verdict(BLOCKS[:4] + (firsts, lasts)), ("bounded", 3))
        steps = ((0, 0, 0, 1), (0, 1, 1, 2))
        entries = [(("letter", 0), ((1, None), (None, 2))), (("often", 0), ((GROWS, None), (None, 2)))]
        for firsts, lasts, bounded in (((0,), (0,), False), ((1,), (1,), True), ((0,), (1,), True), ((0, 1), (0, 1), True)):
            machine = (2, 1, 1, steps, firsts, lasts)
            self.assertEqual(catalogue(machine), entries)
            self.assertEqual(verdict(machine)[0] == "bounded", bounded)
            self.assertEqual(verdict(machine)[1], 2)

    def test_the_recipe_holds_only_what_is_needed_numbered_anew(self):
        # Letters 0 and 1 are not needed, so that letter 2 becomes line 0.
        machine = (1, 1, 3, ((0, 0, 0, 0), (1, 0, 0, 2), (2, 0, 0, 1)), (0,), (0,))
        self.assertEqual([made for made, _ in catalogue(machine)][3], ("often", 2))
        self.assertEqual(verdict(machine), (GROWS, 4, (("letter", 2), ("often", 0))))
        # Letters 0 and 1 have the same table, so that letter 2 is entry 1 and letter 3, which is not needed, entry 2.
        machine = (1, 1, 4, ((0, 0, 0, 0), (1, 0, 0, 0), (2, 0, 0, 1), (3, 0, 0, 2)), (0,), (0,))
        self.assertEqual([made for made, _ in catalogue(machine)][1:], [("letter", 2), ("letter", 3), ("often", 1)])
        self.assertEqual(verdict(machine), (GROWS, 4, (("letter", 2), ("often", 0))))

    def test_a_recipe_in_which_entries_are_left_out_in_between(self):
        # Only letters 0 and 2 in turn can be repeated; with letter 1 there are no runs.
        machine = (2, 1, 3, ((0, 0, 1, 1), (2, 1, 0, 0)), (0,), (0,))
        entries = catalogue(machine)
        lines = [made for made, _ in entries]
        self.assertEqual(lines[:3], [("letter", 0), ("letter", 1), ("letter", 2)])
        first = growing(machine, entries)[0]
        both = lines[first][1]
        self.assertEqual(lines[first][0], "often")
        self.assertEqual(lines[both], ("both", 0, 2))
        self.assertEqual(
            verdict(machine), (GROWS, len(entries), (("letter", 0), ("letter", 2), ("both", 0, 1), ("often", 2)))
        )

    def test_the_recipe_of_the_machine_with_three_states(self):
        # The entries 2 and 4 of the catalogue above, made from the entries 1 and 0.
        machine = (3, 1, 1, ((0, 0, 1, 0), (0, 1, 2, 0), (0, 2, 0, 1)), (0,), (0,))
        recipe = (("letter", 0), ("both", 0, 0), ("both", 1, 0), ("often", 2))
        self.assertEqual(verdict(machine), (GROWS, 8, recipe))

    def test_the_recipe_gives_the_table_of_the_first_entry_that_grows(self):
        seen = {"bounded": 0, GROWS: 0, "left out": 0}
        for machine in plain.small_machines():
            entries = catalogue(machine)
            numbers = growing(machine, entries)
            answer = verdict(machine)
            seen[answer[0]] += 1
            if not numbers:
                self.assertEqual(answer, ("bounded", len(entries)))
                continue
            self.assertEqual(answer[:2], (GROWS, len(entries)))
            self.check_recipe(machine, entries, numbers[0], answer[2])
            seen["left out"] += len(answer[2]) < numbers[0] + 1
        self.assertGreater(min(seen.values()), 20)

    def check_recipe(self, machine, entries, number, recipe):
        self.assertEqual(tables_of(machine, recipe)[-1], entries[number][1])
        needed = {number}
        for at in range(number, -1, -1):
            if at in needed and entries[at][0][0] != "letter":
                needed |= set(entries[at][0][1:])
        # The tables of the entries are distinct, so that they tell which entries the lines are.
        self.assertEqual(tables_of(machine, recipe), [entries[at][1] for at in sorted(needed)])
        self.assertEqual([line[0] for line in recipe], [entries[at][0][0] for at in sorted(needed)])

    def test_the_kinds_of_values(self):
        for machine in (BLOCKS, THERE_AND_BACK):
            answer = verdict(machine)
            self.assertIs(type(answer), tuple)
            self.assertIs(type(answer[1]), int)
        self.assertIs(type(verdict(BLOCKS)[2]), tuple)
        self.assertEqual([type(line) for line in verdict(BLOCKS)[2]], [tuple, tuple])


class Promise(unittest.TestCase):
    """One number bounds the costs of all words if and only if the verdict is so: by costs alone."""

    def test_verdicts_agree_with_a_search_for_words_above_a_number(self):
        seen = {"bounded": 0, GROWS: 0}
        for machine in plain.small_machines():
            answer = verdict(machine)[0]
            try:
                bounds = [plain.word_above(machine, number, 3000) is None for number in range(5)]
            except LookupError:
                continue
            with self.subTest(machine=machine):
                # These machines are so small that what is bounded is bounded by 4.
                self.assertEqual(any(bounds), answer == "bounded")
            seen[answer] += 1
        self.assertGreater(min(seen.values()), 30)

    def test_the_words_of_recipes_cost_more_and_more(self):
        many = 0
        for machine in plain.small_machines():
            answer = verdict(machine)
            if answer[0] == GROWS:
                states, counters = machine[:2]
                for number in (0, 1):
                    word = word_of(answer[2], states * (number + 1) ** counters + 2)
                    if len(word) <= 1000:
                        self.assertGreater(cost(machine, word), number)
                        many += 1
        self.assertGreater(many, 50)


if __name__ == "__main__":
    unittest.main()

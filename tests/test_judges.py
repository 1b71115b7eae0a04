"""Points 20 and 21: what the judge of catalogues answers."""

import random
import unittest

from mostspent.catalogues import catalogue, verdict
from mostspent.judges import judge_catalogue
from tests import plain
from tests.test_costs import within_seconds

GROWS = "grows"

# Letter 0 leads from state 0 to state 1, letter 1 back and sets counter 1 to 0, letter 2 increases it at state 0.
MACHINE = (2, 1, 3, ((0, 0, 1, 0), (1, 1, 0, 2), (2, 0, 0, 1)), (0,), (1,))
ZERO = ((None, 0), (None, None))
ONE = ((None, None), (2, None))
TWO = ((1, None), (None, None))
OFTEN = ((GROWS, None), (None, None))
LETTERS = [(("letter", 0), ZERO), (("letter", 1), ONE), (("letter", 2), TWO)]

# One state; letter 0 increases counter 1, letter 1 sets it to 0.
BLOCKS = (1, 1, 2, ((0, 0, 0, 1), (1, 0, 0, 2)), (0,), (0,))
INCREASED = (("letter", 0), ((1,),))
RESET = (("letter", 1), ((2,),))
OFTEN_INCREASED = (("often", 0), ((GROWS,),))

# Nothing grows here, as there are no last states.
UNACCEPTED = BLOCKS[:5] + ((),)

# The machine with a catalogue of more than 100 entries, without last states.
LARGE = (3, 1, 2, ((1, 2, 1, 0), (0, 2, 1, 2), (0, 2, 2, 1), (1, 1, 2, 1), (0, 1, 0, 1), (1, 0, 1, 0)), (0,), ())


def changed(table, before, after, value):
    """The table with another value at one place."""
    return tuple(
        tuple(value if (i, j) == (before, after) else old for j, old in enumerate(row)) for i, row in enumerate(table)
    )


def shifted(line, by):
    """The line with its numbers of earlier lines increased."""
    return line if line[0] == "letter" else (line[0],) + tuple(at + by for at in line[1:])


def without(entries, number):
    """The entries without one that no other names."""
    kept = []
    for made, table in entries[:number] + entries[number + 1:]:
        line = made if made[0] == "letter" else (made[0],) + tuple(at - (at > number) for at in made[1:])
        kept.append((line, table))
    return kept


def plain_answer(machine, entries):
    """What the judge answers, found by looking at all pairs of entries."""
    tables = [table for _, table in entries]
    for number, (made, table) in enumerate(entries):
        if plain.table_of(machine, made, tables) != table:
            return ("wrong", number)
    for number, table in enumerate(tables):
        if plain.value_of(machine, table) == GROWS:
            return (GROWS, number)
    needed = {plain.of_letter(machine, letter) for letter in range(machine[2])}
    needed |= {plain.sequence(one, other) for one in tables for other in tables}
    needed |= {plain.again(table) for table in tables if plain.sequence(table, table) == table}
    return ("bounded",) if needed <= set(tables) else ("missing",)


class Judged(unittest.TestCase):
    def check(self, machine, entries, expected):
        copy = list(entries)
        with self.subTest(machine=machine, entries=entries):
            self.assertEqual(judge_catalogue(machine, entries), expected)
            self.assertEqual(entries, copy)


class Wrong(Judged):
    def test_a_letter_that_the_machine_does_not_have(self):
        self.check(MACHINE, LETTERS + [(("letter", 3), ((None, None), (None, None)))], ("wrong", 3))
        self.check(BLOCKS, [(("letter", 2), ((None,),))], ("wrong", 0))
        self.check(BLOCKS, [INCREASED, (("letter", 3), ((1,),))], ("wrong", 1))

    def test_a_table_that_is_off_by_one_value(self):
        for number, (made, table) in enumerate(LETTERS):
            for before in (0, 1):
                for after in (0, 1):
                    for value in plain.ORDER:
                        if value != table[before][after]:
                            entries = list(LETTERS)
                            entries[number] = (made, changed(table, before, after, value))
                            self.check(MACHINE, entries, ("wrong", number))

    def test_a_table_of_another_letter(self):
        self.check(MACHINE, [(("letter", 0), ONE)], ("wrong", 0))
        self.check(MACHINE, LETTERS + [(("letter", 1), ZERO)], ("wrong", 3))

    def test_a_sequence_in_the_wrong_order(self):
        there, back = ((2, None), (None, None)), ((None, None), (None, 2))
        self.check(MACHINE, LETTERS + [(("both", 0, 1), back)], ("wrong", 3))
        self.check(MACHINE, LETTERS + [(("both", 1, 0), there)], ("wrong", 3))
        self.check(MACHINE, LETTERS + [(("both", 0, 1), there), (("both", 1, 0), back)], ("missing",))

    def test_a_sequence_of_other_entries(self):
        self.check(BLOCKS, [INCREASED, RESET, (("both", 0, 0), ((2,),))], ("wrong", 2))
        self.check(BLOCKS, [INCREASED, RESET, (("both", 1, 1), ((1,),))], ("wrong", 2))

    def test_often_of_a_table_that_is_not_stable(self):
        empty = ((None, None), (None, None))
        for table in (empty, ZERO, OFTEN):
            self.check(MACHINE, LETTERS + [(("often", 0), table)], ("wrong", 3))

    def test_often_with_a_table_that_is_not_the_repeated_one(self):
        self.check(MACHINE, LETTERS + [(("often", 2), TWO)], ("wrong", 3))
        self.check(BLOCKS, [INCREASED, RESET, (("often", 1), ((GROWS,),))], ("wrong", 2))
        self.check(BLOCKS, [INCREASED, RESET, (("often", 0), ((2,),))], ("wrong", 2))

    def test_the_first_wrong_entry_is_told(self):
        wrong = (("letter", 0), ((2,),))
        for number in range(4):
            entries = [INCREASED] * number + [wrong] + [INCREASED, wrong, (("both", 0, 0), ((5,),))]
            self.check(BLOCKS, entries, ("wrong", number))

    def test_wrong_comes_before_the_other_answers(self):
        wrong = (("both", 0, 1), ((1,),))
        self.check(BLOCKS, [INCREASED, RESET, OFTEN_INCREASED, wrong], ("wrong", 3))
        self.check(UNACCEPTED, [INCREASED, RESET, OFTEN_INCREASED, wrong], ("wrong", 3))
        self.check(UNACCEPTED, [INCREASED, INCREASED, (("both", 0, 1), ((2,),))], ("wrong", 2))

    def test_a_wrong_entry_is_wrong_even_if_its_table_is_in_the_catalogue(self):
        self.check(UNACCEPTED, [INCREASED, RESET, OFTEN_INCREASED, (("letter", 0), ((2,),))], ("wrong", 3))


class Grows(Judged):
    def test_the_first_entry_that_grows_is_told(self):
        self.check(BLOCKS, [INCREASED, RESET, OFTEN_INCREASED], (GROWS, 2))
        self.check(BLOCKS, [INCREASED, OFTEN_INCREASED, RESET, (("both", 1, 2), ((GROWS,),))], (GROWS, 1))
        self.check(BLOCKS, [INCREASED, INCREASED, RESET, (("both", 1, 2), ((2,),)), OFTEN_INCREASED], (GROWS, 4))

    def test_grows_comes_before_missing(self):
        self.check(BLOCKS, [INCREASED, OFTEN_INCREASED], (GROWS, 1))

    def test_a_table_grows_only_from_a_first_state_to_a_last_one(self):
        entries = LETTERS + [(("often", 2), OFTEN)]
        for firsts, lasts, expected in (
            ((0,), (0,), (GROWS, 3)),
            ((0, 1), (1, 0), (GROWS, 3)),
            ((0,), (1,), ("missing",)),
            ((1,), (0,), ("missing",)),
            ((), (0,), ("missing",)),
            ((0,), (), ("missing",)),
        ):
            self.check(MACHINE[:4] + (firsts, lasts), entries, expected)

    def test_an_odd_action_does_not_grow(self):
        self.check(BLOCKS, [INCREASED, RESET], ("missing",))

    def test_a_table_with_an_action_beside_does_not_grow(self):
        steps = ((0, 0, 0, 1), (0, 1, 1, 2))
        entries = [(("letter", 0), ((1, None), (None, 2))), (("often", 0), ((GROWS, None), (None, 2)))]
        self.check((2, 1, 1, steps, (0, 1), (0, 1)), entries, ("bounded",))
        self.check((2, 1, 1, steps, (0,), (0, 1)), entries, (GROWS, 1))


class Missing(Judged):
    def test_no_entries(self):
        self.check(BLOCKS, [], ("missing",))
        self.check((1, 0, 1, (), (), ()), [], ("missing",))

    def test_a_letter(self):
        free = (1, 0, 2, ((0, 0, 0, 0),), (0,), (0,))
        zero, one = (("letter", 0), ((0,),)), (("letter", 1), ((None,),))
        self.check(free, [zero], ("missing",))
        self.check(free, [one], ("missing",))
        self.check(free, [one, zero], ("bounded",))
        # Letters 0, 1 and 2 have the same table, letter 3 has another one.
        machine = (1, 0, 4, ((0, 0, 0, 0), (1, 0, 0, 0), (2, 0, 0, 0)), (0,), (0,))
        self.check(machine, [(("letter", 2), ((0,),))], ("missing",))
        self.check(machine, [(("letter", 2), ((0,),)), (("letter", 3), ((None,),))], ("bounded",))

    def test_the_table_of_a_letter_may_be_made_otherwise(self):
        machine = (1, 1, 3, ((0, 0, 0, 2), (1, 0, 0, 2), (2, 0, 0, 2)), (0,), (0,))
        self.check(machine, [(("letter", 0), ((2,),))], ("bounded",))
        # The table of letter 2 is that of letters 0 and 1 in sequence.
        machine = (2, 0, 3, ((0, 0, 1, 0), (1, 1, 0, 0), (2, 0, 0, 0)), (0,), (0,))
        entries = catalogue(machine[:2] + (2,) + machine[3:])
        self.assertEqual(entries[4], (("both", 0, 1), ((0, None), (None, None))))
        self.check(machine, entries, ("bounded",))
        self.check(machine, entries[:4], ("missing",))

    def test_a_sequence_in_one_of_the_two_orders(self):
        # There are no letters but 0 and 1; the tables of 0 then 1 and of 1 then 0 differ.
        machine = (2, 0, 2, ((0, 0, 1, 0), (1, 1, 0, 0)), (0,), (0,))
        entries = catalogue(machine)
        self.assertEqual([made for made, _ in entries[2:]], [("both", 0, 0), ("both", 1, 0), ("both", 0, 1)])
        self.check(machine, entries, ("bounded",))
        for number in (2, 3, 4):
            self.check(machine, entries[:number] + entries[number + 1:], ("missing",))

    def test_the_sequence_of_an_entry_with_itself(self):
        steps = ((0, 0, 1, 0),)
        zero = (("letter", 0), ((None, 0), (None, None)))
        empty = (("both", 0, 0), ((None, None), (None, None)))
        self.check((2, 0, 1, steps, (0,), (1,)), [zero], ("missing",))
        self.check((2, 0, 1, steps, (0,), (1,)), [zero, empty], ("bounded",))

    def test_a_repeated_table(self):
        self.check(UNACCEPTED, [INCREASED, RESET], ("missing",))
        self.check(UNACCEPTED, [INCREASED, RESET, OFTEN_INCREASED], ("bounded",))

    def test_only_the_repeated_table_of_a_later_entry(self):
        # The square of letter 0 is stable, it is not.
        machine = (2, 1, 1, ((0, 0, 0, 1), (0, 0, 1, 0), (0, 1, 1, 2)), (0,), (1,))
        entries = catalogue(machine)
        self.assertEqual([made for made, _ in entries], [("letter", 0), ("both", 0, 0), ("often", 1)])
        self.check(machine, entries, ("bounded",))
        self.check(machine, entries[:2], ("missing",))

    def test_each_entry_of_a_catalogue_is_needed_unless_others_name_it(self):
        many = 0
        for machine in plain.small_machines()[60:]:
            entries = catalogue(machine)
            named = {at for made, _ in entries if made[0] != "letter" for at in made[1:]}
            for number in range(len(entries)):
                if number not in named:
                    self.check(machine, without(entries, number), ("missing",))
                    many += 1
        self.assertGreater(many, 100)


class Bounded(Judged):
    def test_the_catalogue_of_a_machine_itself(self):
        for machine in plain.small_machines():
            entries = catalogue(machine)
            growing = [at for at, (_, table) in enumerate(entries) if plain.value_of(machine, table) == GROWS]
            expected = (GROWS, growing[0]) if growing else ("bounded",)
            self.assertEqual(expected[0], verdict(machine)[0])
            self.check(machine, entries, expected)

    def test_entries_that_are_put_in_twice(self):
        for machine in plain.small_machines():
            entries = catalogue(machine)
            answer = judge_catalogue(machine, entries)
            self.check(machine, entries + entries, answer)
            again = [(shifted(made, len(entries)), table) for made, table in entries]
            self.check(machine, entries + again, answer)
            beside = []
            for made, table in entries:
                line = made if made[0] == "letter" else (made[0],) + tuple(2 * at for at in made[1:])
                beside.extend([(line, table)] * 2)
            self.check(machine, beside, (GROWS, 2 * answer[1]) if len(answer) == 2 else answer)

    def test_another_order_than_that_of_the_catalogue(self):
        self.check(UNACCEPTED, [RESET, INCREASED, (("often", 1), ((GROWS,),))], ("bounded",))
        self.check(UNACCEPTED, [INCREASED, OFTEN_INCREASED, RESET], ("bounded",))


class Random(Judged):
    def spoilt(self, source, machine, entries):
        """The entries with some left out, repeated, or changed."""
        lines = [made for made, _ in entries]
        kept = sorted(source.sample(range(len(entries)), source.randint(1, len(entries))))
        if source.randint(0, 2) == 0:
            kept = list(range(len(entries)))
        found = []
        for at in kept:
            if lines[at][0] == "letter" or set(lines[at][1:]) <= set(kept):
                renumbered = lines[at][1:] if lines[at][0] == "letter" else [kept.index(old) for old in lines[at][1:]]
                found.append(((lines[at][0], *renumbered), entries[at][1]))
            else:
                found.append((("letter", source.randrange(4)), entries[at][1]))
        if source.randint(0, 2) == 0:
            at = source.randrange(len(found))
            value = source.choice(plain.ORDER)
            place = (source.randrange(machine[0]), source.randrange(machine[0]))
            found[at] = (found[at][0], changed(found[at][1], *place, value))
        return found

    def test_random_lists_of_entries(self):
        source = random.Random(40)
        seen = {"wrong": 0, GROWS: 0, "missing": 0, "bounded": 0}
        for machine in plain.small_machines():
            for _ in range(4):
                entries = self.spoilt(source, machine, catalogue(machine))
                expected = plain_answer(machine, entries)
                self.check(machine, entries, expected)
                seen[expected[0]] += 1
        self.assertGreater(min(seen.values()), 20)


class Large(Judged):
    def test_a_closed_list_of_more_than_100_tables(self):
        entries = plain.listed(LARGE)
        self.assertEqual(len(entries), 101)
        self.check(LARGE, entries, ("bounded",))
        self.check(LARGE, entries[:100], ("missing",))

    def test_1000_entries(self):
        entries = plain.listed(LARGE)
        many = [(shifted(made, at - at % 101), table) for at, (made, table) in enumerate(entries * 9)]
        many.extend([entries[0]] * (1000 - len(many)))
        with within_seconds(20):
            self.check(LARGE, many, ("bounded",))
            self.check(LARGE, [entries[0]] * 1000, ("missing",))
            self.check(LARGE, many[:-1] + [(("letter", 1), entries[0][1])], ("wrong", 999))
        chain = [INCREASED] + [(("both", at, 0), ((1,),)) for at in range(998)] + [(("often", 998), ((GROWS,),))]
        self.check(BLOCKS, chain, (GROWS, 999))

    def test_the_kinds_of_values(self):
        for machine, entries in ((BLOCKS, []), (BLOCKS, catalogue(BLOCKS)), (BLOCKS, [RESET, (("letter", 0), ((2,),))])):
            answer = judge_catalogue(machine, entries)
            self.assertIs(type(answer), tuple)
            self.assertEqual([type(part) for part in answer], [str, int][:len(answer)])


if __name__ == "__main__":
    unittest.main()

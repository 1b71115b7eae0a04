"""Points 1, 2 and 3: the form of machines, their faults, and actions."""

import itertools
import unittest

from mostspent.machines import applied, fault

STEP = (0, 0, 0, 0)

# For each word a change of GOOD's parts that leads to it, in the order in which the words are told.
GOOD = {"states": 2, "counters": 1, "letters": 2, "steps": ((1, 0, 1, 2),), "firsts": (0,), "lasts": (1, 0)}
WRONG = {"states": 7, "counters": 4, "letters": 5, "steps": ((9, 9, 9, 99),), "firsts": (9,), "lasts": (9,)}


def machine(**changes):
    """GOOD with other parts."""
    return tuple({**GOOD, **changes}.values())


class Faults(unittest.TestCase):
    def check(self, word, **changes):
        with self.subTest(**changes):
            self.assertEqual(fault(machine(**changes)), word)

    def test_a_machine_of_the_form_has_no_fault(self):
        self.assertIsNone(fault(machine()))
        self.assertIsNone(fault((1, 0, 1, (), (), ())))
        self.assertIsNone(fault((6, 3, 4, ((3, 5, 5, 6), STEP), (5, 0, 3), (4, 5))))

    def test_states_are_from_1_to_6(self):
        for states in (-1, 0, 7, 8, 100):
            self.check("states", states=states, steps=(), firsts=(), lasts=())
        for states in (1, 2, 3, 4, 5, 6):
            self.check(None, states=states, steps=(STEP,), firsts=(), lasts=())

    def test_counters_are_from_0_to_3(self):
        for counters in (-2, -1, 4, 5):
            self.check("counters", counters=counters, steps=())
        for counters in (0, 1, 2, 3):
            self.check(None, counters=counters, steps=(STEP,))

    def test_letters_are_from_1_to_4(self):
        for letters in (-1, 0, 5, 6):
            self.check("letters", letters=letters, steps=())
        for letters in (1, 2, 3, 4):
            self.check(None, letters=letters, steps=(STEP,))

    def test_there_are_at_most_100_steps(self):
        self.check(None, steps=(STEP,) * 99)
        self.check(None, steps=(STEP,) * 100)
        self.check("steps", steps=(STEP,) * 101)
        self.check("steps", steps=(STEP,) * 150)

    def test_the_same_step_may_occur_several_times(self):
        self.check(None, steps=((1, 0, 1, 2), STEP, (1, 0, 1, 2), (1, 0, 1, 2)))

    def test_a_step_has_four_parts(self):
        for step in ((), (0,), (0, 0), (0, 0, 0), (0, 0, 0, 0, 0), (0, 0, 0, 0, 0, 0)):
            self.check("steps", steps=(step,))

    def test_each_part_of_a_step_has_its_own_limits(self):
        # All four limits differ: 3 letters, 5 states, actions up to 2.
        limits = (2, 4, 4, 2)
        for place, limit in enumerate(limits):
            for part in (-2, -1, 0, 1, limit, limit + 1, limit + 2, 100):
                step = STEP[:place] + (part,) + STEP[place + 1:]
                word = None if 0 <= part <= limit else "steps"
                self.check(word, states=5, counters=1, letters=3, steps=(step,))

    def test_each_part_of_a_step_may_have_the_greatest_number_that_there_is(self):
        for states, counters, letters in itertools.product((1, 6), (0, 1, 2, 3), (1, 4)):
            greatest = (letters - 1, states - 1, states - 1, 2 * counters)
            sizes = {"states": states, "counters": counters, "letters": letters, "firsts": (), "lasts": ()}
            self.check(None, steps=(greatest,), **sizes)
            for place in range(4):
                beyond = greatest[:place] + (greatest[place] + 1,) + greatest[place + 1:]
                self.check("steps", steps=(beyond,), **sizes)

    def test_a_wrong_step_is_found_at_any_place(self):
        for place in (0, 1, 50, 98, 99):
            steps = [STEP] * 100
            steps[place] = (0, 0, 2, 0)
            self.check("steps", steps=tuple(steps))

    def test_firsts_and_lasts_are_distinct_states_in_any_order(self):
        sizes = {"states": 3, "steps": ()}
        for word, other in (("firsts", "lasts"), ("lasts", "firsts")):
            for members in ((), (0,), (2,), (0, 1, 2), (2, 0, 1), (2, 1)):
                self.check(None, **{word: members, other: (), **sizes})
            for members in ((0, 0), (0, 1, 0), (2, 1, 2), (1, 2, 2), (3,), (0, 3), (-1,), (0, 1, 2, -1), (0, 100)):
                self.check(word, **{word: members, other: (), **sizes})

    def test_a_state_may_be_both_first_and_last(self):
        self.check(None, firsts=(1, 0), lasts=(1, 0))
        self.check(None, firsts=(1,), lasts=(1,))

    def test_of_several_faults_the_first_word_is_told(self):
        words = list(WRONG)
        for many in range(1, 7):
            for chosen in itertools.combinations(words, many):
                self.check(chosen[0], **{word: WRONG[word] for word in chosen})

    def test_too_small_numbers_come_before_later_faults_too(self):
        self.check("states", states=0, counters=-1, letters=0, steps=(STEP,) * 101)
        self.check("counters", counters=-1, letters=0, steps=(STEP,) * 101)
        self.check("letters", letters=0, steps=(STEP,) * 101)
        self.check("steps", steps=(STEP,) * 101, firsts=(0, 0), lasts=(0, 0))
        self.check("firsts", firsts=(0, 0), lasts=(0, 0))


class Actions(unittest.TestCase):
    def test_the_example_of_the_interface(self):
        self.assertEqual(applied(3, (3, 5)), (0, 6))

    def test_every_action_of_up_to_three_counters(self):
        results = {
            (): [()],
            (5,): [(5,), (6,), (0,)],
            (5, 7): [(5, 7), (6, 7), (0, 7), (0, 8), (0, 0)],
            (5, 7, 9): [(5, 7, 9), (6, 7, 9), (0, 7, 9), (0, 8, 9), (0, 0, 9), (0, 0, 10), (0, 0, 0)],
        }
        for counters, expected in results.items():
            for action, after in enumerate(expected):
                with self.subTest(action=action, counters=counters):
                    self.assertEqual(applied(action, counters), after)

    def test_actions_on_counters_that_are_zero(self):
        zero = (0, 0, 0)
        expected = [zero, (1, 0, 0), zero, (0, 1, 0), zero, (0, 0, 1), zero]
        self.assertEqual([applied(action, zero) for action in range(7)], expected)

    def test_the_tuple_that_is_passed_stays_and_a_tuple_is_returned(self):
        for action in range(7):
            counters = (1, 2, 3)
            self.assertIs(type(applied(action, counters)), tuple)
            self.assertEqual(counters, (1, 2, 3))

    def test_actions_one_after_another(self):
        counters = (0, 0)
        seen = []
        for action in (1, 1, 3, 1, 0, 2, 3, 1, 4):
            counters = applied(action, counters)
            seen.append(counters)
        expected = [(1, 0), (2, 0), (0, 1), (1, 1), (1, 1), (0, 1), (0, 2), (1, 2), (0, 0)]
        self.assertEqual(seen, expected)


if __name__ == "__main__":
    unittest.main()

"""Points 4, 7 and 8: what words cost, and which of the cheapest runs is returned."""

import contextlib
import itertools
import random
import signal
import unittest

from mostspent.costs import cheapest, cost
from tests.listing import cheapest_by_places, cheapest_listed, run_cost

# Over the letter 0 counter 1 is increased, over the letter 1 it is set to 0.
BLOCKS = (1, 1, 2, ((0, 0, 0, 1), (1, 0, 0, 2)), (0,), (0,))

# Counter 1 is increased by all letters but one, at which it is set to 0.
ONE_RESET = (2, 1, 1, ((0, 0, 0, 1), (0, 0, 1, 2), (0, 1, 1, 1)), (0,), (1,))


def random_machine(source, states, counters, letters, many):
    """A machine of these sizes with at most `many` steps."""
    steps = tuple(
        (source.randrange(letters), source.randrange(states), source.randrange(states), source.randint(0, 2 * counters))
        for _ in range(source.randint(0, many))
    )
    firsts, lasts = (tuple(source.sample(range(states), source.randint(0, states))) for _ in range(2))
    return (states, counters, letters, steps, firsts, lasts)


def words(letters, longest):
    """All words of at most this length."""
    for length in range(longest + 1):
        for word in itertools.product(range(letters), repeat=length):
            yield list(word)


@contextlib.contextmanager
def within_seconds(seconds):
    """Fails if the block takes longer; it is ended then."""

    def stop(_number, _frame):
        raise AssertionError(f"it takes more than {seconds} seconds")

    before = signal.signal(signal.SIGALRM, stop)
    signal.setitimer(signal.ITIMER_REAL, seconds)
    try:
        yield
    finally:
        signal.setitimer(signal.ITIMER_REAL, 0)
        signal.signal(signal.SIGALRM, before)


class Costs(unittest.TestCase):
    def check(self, machine, word, expected):
        """Both functions answer as `cheapest` should."""
        with self.subTest(machine=machine, word=word):
            self.assertEqual(cheapest(machine, word), expected)
            self.assertEqual(cost(machine, word), None if expected is None else expected[0])


class Small(Costs):
    def test_a_run_costs_the_highest_value_not_the_last(self):
        self.check(BLOCKS, [0, 0, 0, 1, 0], (3, 0, (0, 0, 0, 1, 0)))
        self.check(BLOCKS, [0, 1, 0, 0, 1], (2, 0, (0, 1, 0, 0, 1)))
        self.check(BLOCKS, [1, 1], (0, 0, (1, 1)))
        self.check(BLOCKS, [0], (1, 0, (0,)))

    def test_any_counter_can_have_the_highest_value(self):
        for counter in (1, 2, 3):
            machine = (1, 3, 2, ((0, 0, 0, 2 * counter - 1), (1, 0, 0, 2 * counter)), (0,), (0,))
            self.check(machine, [0, 0, 1, 0, 0, 0, 1, 0], (3, 0, (0, 0, 1, 0, 0, 0, 1, 0)))

    def test_a_higher_counter_sets_the_lower_ones_to_0(self):
        machine = (1, 2, 2, ((0, 0, 0, 1), (1, 0, 0, 3)), (0,), (0,))
        self.check(machine, [0, 0, 1, 0, 0], (2, 0, (0, 0, 1, 0, 0)))
        self.check(machine, [0, 1, 0, 1, 0, 1], (3, 0, (0, 1, 0, 1, 0, 1)))

    def test_a_lower_counter_leaves_the_higher_ones(self):
        machine = (1, 2, 2, ((0, 0, 0, 3), (1, 0, 0, 2)), (0,), (0,))
        self.check(machine, [0, 1, 0, 1, 0], (3, 0, (0, 1, 0, 1, 0)))

    def test_a_word_costs_what_its_cheapest_run_costs(self):
        machine = (2, 1, 1, ((0, 0, 0, 1), (0, 0, 1, 1), (0, 1, 1, 0)), (0,), (0, 1))
        self.check(machine, [0, 0, 0], (1, 0, (1, 2, 2)))

    def test_only_runs_that_accept_count(self):
        machine = (2, 1, 1, ((0, 0, 0, 1), (0, 0, 1, 1), (0, 1, 1, 0)), (0,), (0,))
        self.check(machine, [0, 0, 0], (3, 0, (0, 0, 0)))

    def test_the_cheapest_end_is_not_the_cheapest_run(self):
        # The run through state 1 costs 2 at once and ends with counters of 0; the other one costs 1.
        steps = ((0, 0, 1, 1), (0, 1, 1, 1), (1, 1, 2, 2), (0, 0, 3, 1), (0, 3, 3, 0), (1, 3, 2, 0))
        machine = (4, 1, 2, steps, (0,), (2,))
        self.check(machine, [0, 0, 1], (1, 0, (3, 4, 5)))

    def test_a_dearer_beginning_can_be_needed(self):
        # Both ways lead to state 3: one costs 1 and leaves 1 in counter 2, the other one costs 2 and leaves 0.
        steps = ((0, 0, 1, 3), (0, 1, 3, 0), (0, 0, 2, 1), (0, 2, 3, 1), (1, 3, 3, 3))
        machine = (4, 2, 2, steps, (0,), (3,))
        self.check(machine, [0, 0], (1, 0, (0, 1)))
        self.check(machine, [0, 0, 1, 1, 1], (3, 0, (2, 3, 4, 4, 4)))

    def test_a_word_that_no_run_accepts(self):
        self.check(BLOCKS[:4] + ((0,), ()), [0], None)
        self.check(BLOCKS[:4] + ((), (0,)), [0], None)
        self.check((2, 1, 1, ((0, 0, 1, 0),), (0,), (1,)), [0, 0], None)
        self.check((2, 1, 1, ((0, 0, 1, 0),), (0,), (0,)), [0], None)
        self.check((2, 1, 1, ((0, 0, 1, 0),), (1,), (1,)), [0], None)
        self.check((2, 1, 2, ((0, 0, 1, 0),), (0,), (1,)), [1], None)

    def test_the_empty_word(self):
        self.check(BLOCKS, [], (0, 0, ()))
        self.check((3, 1, 1, (), (2, 0, 1), (1, 0)), [], (0, 0, ()))
        self.check((3, 1, 1, (), (1, 2), (2, 1)), [], (0, 1, ()))
        self.check((3, 0, 1, (), (2,), (2,)), [], (0, 2, ()))
        self.check((3, 1, 1, (), (0, 1), (2,)), [], None)
        self.check((3, 1, 1, (), (), (2,)), [], None)
        self.check((3, 1, 1, (), (0,), ()), [], None)
        self.check((3, 1, 1, (), (), ()), [], None)

    def test_no_counters(self):
        machine = (2, 0, 2, ((0, 0, 1, 0), (1, 1, 0, 0), (0, 0, 0, 0)), (0,), (0, 1))
        self.check(machine, [0, 1, 0], (0, 0, (0, 1, 0)))
        self.check(machine, [0, 0], (0, 0, (2, 0)))
        self.check(machine, [1], None)

    def test_no_steps(self):
        self.check((1, 1, 2, (), (0,), (0,)), [], (0, 0, ()))
        self.check((1, 1, 2, (), (0,), (0,)), [0], None)
        self.check((1, 1, 2, (), (0,), (0,)), [1, 1], None)

    def test_the_first_state_that_comes_first_in_firsts(self):
        steps = ((0, 0, 0, 0), (0, 1, 0, 0), (0, 2, 0, 1))
        self.check((3, 1, 1, steps, (0, 1), (0,)), [0, 0], (0, 0, (0, 0)))
        self.check((3, 1, 1, steps, (1, 0), (0,)), [0, 0], (0, 1, (1, 0)))
        # A dearer run does not come first, whatever its first state.
        self.check((3, 1, 1, steps, (2, 1, 0), (0,)), [0, 0], (0, 1, (1, 0)))
        self.check((3, 1, 1, steps, (2,), (0,)), [0, 0], (1, 2, (2, 0)))

    def test_the_smallest_tuple_of_step_numbers(self):
        steps = ((0, 1, 1, 0), (0, 0, 1, 0), (0, 0, 0, 0), (0, 1, 0, 0))
        machine = (2, 1, 1, steps, (0,), (0, 1))
        self.check(machine, [0, 0, 0], (0, 0, (1, 0, 0)))
        # The earlier numbers decide before the later ones.
        self.check((2, 1, 1, steps, (0,), (0,)), [0, 0, 0], (0, 0, (1, 0, 3)))
        self.check((2, 1, 1, steps[:3], (0,), (0,)), [0, 0, 0], (0, 0, (2, 2, 2)))

    def test_a_smaller_step_number_does_not_make_a_run_dearer(self):
        machine = (1, 1, 1, ((0, 0, 0, 1), (0, 0, 0, 2)), (0,), (0,))
        self.check(machine, [0, 0, 0], (0, 0, (1, 1, 1)))
        # A step that costs nothing at once is not taken if the run costs more through it later.
        machine = (3, 1, 1, ((0, 0, 1, 0), (0, 0, 2, 0), (0, 1, 1, 1), (0, 2, 2, 0)), (0,), (1, 2))
        self.check(machine, [0, 0], (0, 0, (1, 3)))

    def test_a_step_may_cost_as_long_as_the_run_stays_a_cheapest_one(self):
        # A 1 is needed at the end, so that smaller numbers that cost 1 come first.
        machine = (2, 1, 2, ((0, 0, 0, 1), (0, 0, 0, 2), (1, 0, 1, 2), (0, 1, 1, 1)), (0,), (1,))
        self.check(machine, [0, 0, 0, 1, 0], (1, 0, (0, 1, 0, 2, 3)))

    def test_two_equal_steps(self):
        machine = (1, 1, 1, ((0, 0, 0, 1), (0, 0, 0, 1)), (0,), (0,))
        self.check(machine, [0, 0], (2, 0, (0, 0)))
        machine = (1, 1, 1, ((0, 0, 0, 1), (0, 0, 0, 0), (0, 0, 0, 0)), (0,), (0,))
        self.check(machine, [0, 0], (0, 0, (1, 1)))

    def test_the_list_that_is_passed_stays(self):
        for word in ([], [0, 0, 1, 0], [1, 0]):
            copy = list(word)
            cost(BLOCKS, word)
            cheapest(BLOCKS, word)
            self.assertEqual(word, copy)

    def test_the_kinds_of_values(self):
        for machine, word in ((BLOCKS, [0, 1]), (BLOCKS, []), (ONE_RESET, [0, 0])):
            found = cheapest(machine, word)
            self.assertIs(type(found), tuple)
            self.assertEqual([type(part) for part in found], [int, int, tuple])
            self.assertIs(type(cost(machine, word)), int)


class AgainstAListingOfAllRuns(Costs):
    def check_all(self, machine, longest):
        for word in words(machine[2], longest):
            self.check(machine, word, cheapest_listed(machine, word))

    def test_all_machines_of_one_state_with_two_steps(self):
        for first, second in itertools.product(range(7), repeat=2):
            machine = (1, 3, 2, ((0, 0, 0, first), (1, 0, 0, second)), (0,), (0,))
            self.check_all(machine, 5)

    def test_random_machines(self):
        source = random.Random(78)
        for counters in (0, 1, 2, 3):
            for _ in range(60):
                states, letters = source.randint(1, 4), source.randint(1, 2)
                self.check_all(random_machine(source, states, counters, letters, 9), 4)

    def test_random_machines_and_longer_words(self):
        source = random.Random(79)
        for counters in (1, 2, 3):
            for _ in range(60):
                machine = random_machine(source, 3, counters, 2, 8)
                word = [source.randrange(2) for _ in range(8)]
                self.check(machine, word, cheapest_listed(machine, word))

    def test_random_machines_that_only_increase(self):
        source = random.Random(80)
        for counters in (2, 3):
            for _ in range(60):
                machine = random_machine(source, 3, counters, 1, 9)
                steps = tuple(step[:3] + (2 * source.randint(1, counters) - 1,) for step in machine[3])
                machine = machine[:3] + (steps, (2, 0, 1), (0, 1))
                for length in range(7):
                    self.check(machine, [0] * length, cheapest_listed(machine, [0] * length))

    def test_the_two_ways_of_the_tests_agree(self):
        source = random.Random(81)
        for _ in range(100):
            machine = random_machine(source, 3, 2, 2, 9)
            word = [source.randrange(2) for _ in range(5)]
            self.assertEqual(cheapest_by_places(machine, word), cheapest_listed(machine, word))


class LongWords(Costs):
    def check_soon(self, machine, word, expected):
        """Within a second or so; the limit is wider, as the tests' machine may be busy."""
        with within_seconds(10):
            self.check(machine, word, expected)

    def test_one_run_over_200_letters(self):
        self.check_soon(BLOCKS, [0] * 200, (200, 0, (0,) * 200))
        self.check_soon(BLOCKS, [0] * 120 + [1] + [0] * 79, (120, 0, (0,) * 120 + (1,) + (0,) * 79))
        self.check_soon(BLOCKS[:5] + ((),), [0] * 200, None)

    def test_a_counter_that_is_set_to_0_in_the_middle(self):
        self.check_soon(ONE_RESET, [0] * 200, (100, 0, (0,) * 100 + (1,) + (2,) * 99))
        self.check_soon(ONE_RESET, [0] * 199, (99, 0, (0,) * 99 + (1,) + (2,) * 99))

    def test_a_word_with_two_to_the_power_of_200_runs(self):
        steps = tuple((0, before, later, 1) for before in (0, 1) for later in (0, 1))
        self.check_soon((2, 1, 1, steps, (0, 1), (1,)), [0] * 200, (200, 0, (0,) * 199 + (1,)))
        self.check_soon((2, 1, 1, steps, (1, 0), (1,)), [0] * 200, (200, 1, (2,) + (0,) * 198 + (1,)))
        self.check_soon((2, 1, 1, steps, (1, 0), ()), [0] * 200, None)

    def test_a_word_with_many_runs_none_of_which_accepts(self):
        steps = ((0, 0, 0, 0), (0, 0, 0, 1), (0, 0, 0, 2), (0, 1, 1, 0))
        self.check_soon((2, 1, 1, steps, (0,), (1,)), [0] * 200, None)

    def test_100_steps_between_two_states(self):
        steps = tuple((0, k % 2, k // 2 % 2, 1) for k in range(100))
        self.check_soon((2, 1, 1, steps, (0,), (0, 1)), [0] * 200, (200, 0, (0,) * 200))

    def test_random_machines_of_two_states_and_one_counter(self):
        source = random.Random(200)
        costs = {}
        for _ in range(40):
            machine = random_machine(source, 2, 1, 2, 10)[:4] + ((1, 0), (0, 1))
            often = source.randint(1, 15)
            word = [1 if source.randint(0, often) == 0 else 0 for _ in range(200)]
            expected = cheapest_by_places(machine, word)
            self.check_soon(machine, word, expected)
            costs[None if expected is None else expected[0]] = True
        # Among them are words that are not accepted, cheap ones and dear ones.
        self.assertIn(None, costs)
        self.assertGreater(len(costs), 4)

    def test_random_machines_of_more_states_and_counters(self):
        source = random.Random(201)
        for _ in range(15):
            machine = random_machine(source, 4, 3, 2, 14)[:4] + ((3, 1, 0), (2, 0, 1))
            word = [source.randrange(2) for _ in range(60)]
            self.check_soon(machine, word, cheapest_by_places(machine, word))

    def test_three_counters_among_which_runs_choose(self):
        free = tuple((0, 0, 0, action) for action in range(7))
        self.check_soon((1, 3, 1, free, (0,), (0,)), [0] * 200, (0, 0, (0,) * 200))
        # With values up to 5 these steps count up to 6 * 6 * 6 - 1, with values up to 4 only to 124.
        increasing = (1, 3, 1, ((0, 0, 0, 1), (0, 0, 0, 3), (0, 0, 0, 5)), (0,), (0,))
        with within_seconds(10):
            found = cheapest(increasing, [0] * 200)
        self.assertEqual(found[:2], (5, 0))
        self.assertEqual(run_cost(increasing, 0, found[2]), 5)
        self.assertEqual(cost(increasing, [0] * 124), 4)
        self.assertEqual(cost(increasing, [0] * 125), 5)

    def test_a_long_word_stays(self):
        word = [0, 1] * 100
        cheapest(BLOCKS, word)
        self.assertEqual(word, [0, 1] * 100)

    def test_somewhat_more_than_the_limits_raises_no_error(self):
        self.check_soon(BLOCKS, [0] * 250, (250, 0, (0,) * 250))
        steps = tuple((0, k % 7, (k + 1) % 7, 1) for k in range(140))
        self.check_soon((7, 1, 1, steps, (0,), (3,)), [0] * 10, (10, 0, (0, 1, 2, 3, 4, 5, 6, 0, 1, 2)))


if __name__ == "__main__":
    unittest.main()

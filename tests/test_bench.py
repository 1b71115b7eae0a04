"""Points 35 and 36: benches, on which a machine is changed, and what they tell."""

import random
import unittest

from mostspent import errors
from mostspent.bench import Bench
from mostspent.catalogues import catalogue, verdict
from tests import plain
from tests.test_catalogues import BLOCKS, WITH_100, WITH_101

MACHINE = (2, 1, 2, ((0, 0, 0, 1), (1, 0, 1, 2)), (0,), (1,))
STEP = (0, 1, 1, 0)
FULL = (2, 1, 2, ((0, 0, 1, 1),) * 100, (0,), (1,))


def with_steps(machine, steps):
    """The machine with other steps."""
    return machine[:3] + (tuple(steps),) + machine[4:]


class Benches(unittest.TestCase):
    def check(self, bench, machine, changes, undone):
        self.assertEqual(bench.machine(), machine)
        self.assertEqual((bench.changes(), bench.undone()), (changes, undone))

    def check_raises(self, error, call, *arguments):
        """It raises an error of this class and of no class below."""
        with self.subTest(arguments=arguments), self.assertRaises(error) as caught:
            call(*arguments)
        self.assertIs(type(caught.exception), error)
        return caught.exception

    def check_unchanged(self, bench, error, call, *arguments):
        """It raises the error and changes nothing."""
        before = (bench.machine(), bench.changes(), bench.undone())
        found = self.check_raises(error, call, *arguments)
        self.assertEqual((bench.machine(), bench.changes(), bench.undone()), before)
        return found


class Made(Benches):
    def test_a_new_bench(self):
        for machine in (MACHINE, FULL, (1, 0, 1, (), (), ()), (6, 3, 4, ((3, 5, 5, 6),), (5,), ())):
            self.check(Bench(machine), machine, 0, 0)

    def test_a_machine_at_fault(self):
        for word, machine in (
            ("states", (0, 1, 2, (), (0,), (1,))),
            ("states", (7, 4, 5, (), (), ())),
            ("counters", (2, 4, 2, (), (0,), (1,))),
            ("letters", (2, 1, 5, (), (0,), (1,))),
            ("letters", (2, 1, 0, ((0, 0, 0, 0),), (0,), (1,))),
            ("steps", (2, 1, 2, ((2, 0, 0, 0),), (0,), (1,))),
            ("steps", (2, 1, 2, ((0, 0, 0),), (0,), (1,))),
            ("steps", with_steps(MACHINE, [STEP] * 101)),
            ("firsts", (2, 1, 2, (), (0, 0), (2,))),
            ("lasts", (2, 1, 2, (), (0,), (2,))),
        ):
            self.assertEqual(self.check_raises(errors.InvalidMachine, Bench, machine).word, word)

    def test_two_benches_do_not_share_anything(self):
        one, other = Bench(MACHINE), Bench(MACHINE)
        one.put(STEP)
        one.take(0)
        one.undo()
        self.check(other, MACHINE, 0, 0)
        other.take(0)
        self.check(one, with_steps(MACHINE, MACHINE[3] + (STEP,)), 1, 1)
        self.check(other, with_steps(MACHINE, MACHINE[3][1:]), 1, 0)

    def test_the_machine_that_was_passed_stays(self):
        machine = (2, 1, 2, ((0, 0, 0, 1), (1, 0, 1, 2)), (0,), (1,))
        bench = Bench(machine)
        bench.put(STEP)
        bench.take(0)
        self.assertEqual(machine, MACHINE)


class Changed(Benches):
    def test_a_step_is_put_after_all_others(self):
        bench = Bench(MACHINE)
        self.assertIsNone(bench.put(STEP))
        self.check(bench, with_steps(MACHINE, MACHINE[3] + (STEP,)), 1, 0)
        self.assertIsNone(bench.put((0, 0, 0, 1)))
        self.check(bench, with_steps(MACHINE, MACHINE[3] + (STEP, (0, 0, 0, 1))), 2, 0)

    def test_a_step_is_taken_out_by_its_number(self):
        steps = ((0, 0, 0, 0), (0, 0, 0, 1), (0, 0, 0, 2), (0, 0, 0, 1))
        for number in range(4):
            bench = Bench(with_steps(MACHINE, steps))
            self.assertIsNone(bench.take(number))
            self.check(bench, with_steps(MACHINE, steps[:number] + steps[number + 1:]), 1, 0)
        bench = Bench(MACHINE)
        bench.take(1)
        bench.take(0)
        self.check(bench, with_steps(MACHINE, ()), 2, 0)

    def test_undo_and_redo(self):
        bench = Bench(MACHINE)
        self.assertIs(bench.undo(), False)
        self.assertIs(bench.redo(), False)
        self.check(bench, MACHINE, 0, 0)
        bench.put(STEP)
        bench.take(0)
        machines = [MACHINE, with_steps(MACHINE, MACHINE[3] + (STEP,)), with_steps(MACHINE, (MACHINE[3][1], STEP))]
        self.check(bench, machines[2], 2, 0)
        self.assertIs(bench.redo(), False)
        for at in (1, 0):
            self.assertIs(bench.undo(), True)
            self.check(bench, machines[at], at, 2 - at)
        self.assertIs(bench.undo(), False)
        self.check(bench, MACHINE, 0, 2)
        for at in (1, 2):
            self.assertIs(bench.redo(), True)
            self.check(bench, machines[at], at, 2 - at)
        self.assertIs(bench.redo(), False)
        self.check(bench, machines[2], 2, 0)

    def test_a_new_change_discards_what_could_be_redone(self):
        for put in (True, False):
            bench = Bench(MACHINE)
            bench.put(STEP)
            bench.put(STEP)
            bench.put(STEP)
            bench.undo()
            bench.undo()
            self.assertEqual(bench.undone(), 2)
            if put:
                bench.put((1, 1, 1, 2))
                expected = with_steps(MACHINE, MACHINE[3] + (STEP, (1, 1, 1, 2)))
            else:
                bench.take(2)
                expected = MACHINE
            self.check(bench, expected, 2, 0)
            self.assertIs(bench.redo(), False)
            self.check(bench, expected, 2, 0)
            bench.undo()
            self.check(bench, with_steps(MACHINE, MACHINE[3] + (STEP,)), 1, 1)

    def test_a_change_that_changes_nothing_in_effect_is_a_change(self):
        bench = Bench(FULL)
        bench.take(50)
        bench.put((0, 0, 1, 1))
        self.check(bench, FULL, 2, 0)
        bench.undo()
        self.check(bench, with_steps(FULL, FULL[3][:99]), 1, 1)

    def test_random_changes(self):
        source = random.Random(95)
        for _ in range(60):
            machine = plain.random_machine(source, 3, 2, 2, 5)
            bench = Bench(machine)
            done, undone = [machine], []
            for _ in range(60):
                kind = source.choice(("put", "put", "take", "undo", "undo", "redo"))
                steps = done[-1][3]
                if kind == "put":
                    ends = (source.randrange(machine[0]), source.randrange(machine[0]))
                    step = (source.randrange(machine[2]), *ends, source.randint(0, 2 * machine[1]))
                    self.assertIsNone(bench.put(step))
                    done.append(with_steps(machine, steps + (step,)))
                    undone = []
                elif kind == "take" and steps:
                    number = source.randrange(len(steps))
                    self.assertIsNone(bench.take(number))
                    done.append(with_steps(machine, steps[:number] + steps[number + 1:]))
                    undone = []
                elif kind == "undo":
                    self.assertIs(bench.undo(), len(done) > 1)
                    if len(done) > 1:
                        undone.append(done.pop())
                elif kind == "redo":
                    self.assertIs(bench.redo(), len(undone) > 0)
                    if undone:
                        done.append(undone.pop())
                self.check(bench, done[-1], len(done) - 1, len(undone))


class Errors(Benches):
    WRONG = (
        (), (0,), (0, 1, 1), (0, 1, 1, 0, 0), (2, 1, 1, 0), (-1, 1, 1, 0), (0, 2, 1, 0), (0, -1, 1, 0),
        (0, 1, 2, 0), (0, 1, -1, 0), (0, 1, 1, 3), (0, 1, 1, -1), (9, 9, 9, 9),
    )

    def filled(self):
        """A bench with 100 changes that can be undone, and two steps more or fewer than at the beginning."""
        bench = Bench(with_steps(MACHINE, ()))
        for number in range(100):
            if number % 2 == 0 or number < 3:
                bench.put(STEP)
            else:
                bench.take(0)
        self.assertEqual((bench.changes(), bench.undone(), len(bench.machine()[3])), (100, 0, 2))
        return bench

    def test_steps_that_do_not_have_the_form(self):
        for bench in (Bench(MACHINE), Bench(FULL), self.filled()):
            for step in self.WRONG:
                found = self.check_unchanged(bench, errors.InvalidStep, bench.put, step)
                self.assertIsInstance(found, errors.BenchError)

    def test_the_form_is_that_for_the_machine(self):
        bench = Bench((6, 3, 4, (), (), ()))
        bench.put((3, 5, 5, 6))
        bench.put((0, 0, 0, 0))
        for step in ((4, 0, 0, 0), (0, 6, 0, 0), (0, 0, 6, 0), (0, 0, 0, 7)):
            self.check_unchanged(bench, errors.InvalidStep, bench.put, step)
        bench = Bench((1, 0, 1, (), (), ()))
        bench.put((0, 0, 0, 0))
        for step in ((1, 0, 0, 0), (0, 1, 0, 0), (0, 0, 1, 0), (0, 0, 0, 1)):
            self.check_unchanged(bench, errors.InvalidStep, bench.put, step)

    def test_100_steps(self):
        bench = Bench(with_steps(FULL, FULL[3][:98]))
        bench.put(STEP)
        bench.put(STEP)
        found = self.check_unchanged(bench, errors.TooManySteps, bench.put, STEP)
        self.assertIsInstance(found, errors.BenchError)
        bench.take(0)
        bench.put(STEP)
        self.check_unchanged(bench, errors.TooManySteps, bench.put, STEP)

    def test_no_such_step(self):
        for bench in (Bench(MACHINE), self.filled()):
            for number in (-1, -2, -100, 2, 3, 100):
                found = self.check_unchanged(bench, errors.NoSuchStep, bench.take, number)
                self.assertEqual(found.number, number)
                self.assertIsInstance(found, errors.BenchError)
        bench = Bench(with_steps(MACHINE, ()))
        for number in (0, -1, 1):
            self.assertEqual(self.check_unchanged(bench, errors.NoSuchStep, bench.take, number).number, number)
        bench = Bench(FULL)
        self.assertEqual(self.check_unchanged(bench, errors.NoSuchStep, bench.take, 100).number, 100)
        bench.take(99)

    def test_100_changes_that_can_be_undone(self):
        bench = self.filled()
        for call, argument in ((bench.put, STEP), (bench.take, 0)):
            found = self.check_unchanged(bench, errors.TooManyChanges, call, argument)
            self.assertIsInstance(found, errors.BenchError)

    def test_one_more_behind_an_undo(self):
        bench = self.filled()
        bench.undo()
        bench.put((1, 0, 0, 0))
        self.assertEqual((bench.changes(), bench.undone()), (100, 0))
        self.check_unchanged(bench, errors.TooManyChanges, bench.put, STEP)
        bench.undo()
        bench.take(0)
        self.assertEqual((bench.changes(), bench.undone()), (100, 0))
        self.check_unchanged(bench, errors.TooManyChanges, bench.take, 0)
        # All 100 can be undone and redone.
        for call in (bench.undo, bench.redo):
            self.assertEqual([call() for _ in range(101)], [True] * 100 + [False])
        self.check_unchanged(bench, errors.TooManyChanges, bench.take, 0)

    def test_the_errors_in_their_order(self):
        bench = Bench(with_steps(FULL, FULL[3][:99]))
        for _ in range(49):
            bench.put(STEP)
            bench.take(0)
        bench.take(0)
        bench.put(STEP)
        # There is room for one more step, and none for one more change.
        self.assertEqual((bench.changes(), len(bench.machine()[3])), (100, 99))
        self.check_unchanged(bench, errors.InvalidStep, bench.put, (0, 0, 2, 0))
        self.check_unchanged(bench, errors.TooManyChanges, bench.put, STEP)
        self.check_unchanged(bench, errors.NoSuchStep, bench.take, 99)
        self.check_unchanged(bench, errors.TooManyChanges, bench.take, 98)
        # There is room for neither.
        bench = Bench(FULL)
        for _ in range(50):
            bench.take(0)
            bench.put(STEP)
        self.assertEqual((bench.changes(), len(bench.machine()[3])), (100, 100))
        self.check_unchanged(bench, errors.InvalidStep, bench.put, (0, 0, 0, 3))
        self.check_unchanged(bench, errors.TooManySteps, bench.put, STEP)
        self.check_unchanged(bench, errors.NoSuchStep, bench.take, 100)
        self.check_unchanged(bench, errors.TooManyChanges, bench.take, 99)

    def test_what_raises_leaves_what_could_be_redone(self):
        bench = Bench(with_steps(FULL, FULL[3][:99]))
        bench.put(STEP)
        bench.take(0)
        bench.undo()
        self.assertEqual((bench.changes(), bench.undone()), (1, 1))
        self.check_unchanged(bench, errors.TooManySteps, bench.put, STEP)
        self.check_unchanged(bench, errors.InvalidStep, bench.put, (0, 0, 0))
        self.check_unchanged(bench, errors.NoSuchStep, bench.take, 100)
        self.assertIs(bench.redo(), True)
        self.check(bench, with_steps(FULL, FULL[3][1:99] + (STEP,)), 2, 0)


class Verdicts(Benches):
    def test_the_verdict_on_the_current_machine(self):
        bench = Bench(MACHINE)
        bench.put(STEP)
        bench.put((0, 0, 1, 1))
        bench.take(0)
        for call in (bench.undo, bench.undo, bench.redo, bench.undo, bench.undo, bench.redo, bench.redo):
            self.assertEqual(bench.verdict(), verdict(bench.machine()))
            call()
        self.assertEqual(Bench(BLOCKS).verdict(), ("grows", 3, (("letter", 0), ("often", 0))))
        bench = Bench(BLOCKS)
        bench.take(0)
        self.assertEqual(bench.verdict()[0], "bounded")

    def test_too_many_tables(self):
        bench = Bench(with_steps(WITH_101, WITH_101[3][:-1]))
        before = bench.verdict()
        self.assertEqual(before, verdict(bench.machine()))
        bench.put(WITH_101[3][-1])
        self.check_unchanged(bench, errors.TooManyTables, bench.verdict)
        bench.undo()
        self.assertEqual(bench.verdict(), before)
        self.assertEqual(Bench(WITH_100).verdict()[1], 100)


class Compared(Benches):
    def compare(self, before, after):
        """What `compared` should return for the machines before and after the change."""
        one, other = ([table for _, table in catalogue(machine)] for machine in (before, after))
        return (len(one), len(other), len([table for table in one if table in other]))

    def test_by_hand(self):
        bench = Bench(BLOCKS)
        # The tables are 1, 2 and grows; without letter 1 they are 1, None and grows.
        bench.take(1)
        self.assertEqual(bench.compared(), (3, 3, 2))
        # Now letter 0 has 1 and letter 1 has 0.
        bench.put((1, 0, 0, 0))
        self.assertEqual(bench.compared(), (3, 3, 2))
        # Without letter 0: None and 0.
        bench.take(0)
        self.assertEqual(bench.compared(), (3, 2, 1))
        bench.put((0, 0, 0, 0))
        self.assertEqual(bench.compared(), (2, 1, 1))
        bench.put((0, 0, 0, 0))
        self.assertEqual(bench.compared(), (1, 1, 1))
        bench.put((1, 0, 0, 2))
        self.assertEqual(bench.compared(), (1, 2, 1))
        bench.put((0, 0, 0, 2))
        self.assertEqual(bench.compared(), (2, 1, 1))

    def test_the_last_change_that_is_in_force(self):
        bench = Bench(BLOCKS)
        bench.take(1)
        bench.put((1, 0, 0, 0))
        bench.take(0)
        self.assertEqual(bench.compared(), (3, 2, 1))
        bench.undo()
        self.assertEqual(bench.compared(), (3, 3, 2))
        bench.redo()
        self.assertEqual(bench.compared(), (3, 2, 1))
        bench.undo()
        bench.undo()
        bench.put((0, 0, 0, 2))
        self.assertEqual(bench.compared(), self.compare(with_steps(BLOCKS, BLOCKS[3][:1]), bench.machine()))
        self.assertEqual(bench.undone(), 0)

    def test_random_changes(self):
        source = random.Random(96)
        shared = {"none": 0, "some": 0, "all": 0}
        for machine in plain.small_machines():
            bench = Bench(machine)
            if not machine[3]:
                continue
            bench.take(source.randrange(len(machine[3])))
            try:
                expected = self.compare(machine, bench.machine())
            except errors.TooManyTables:
                self.check_raises(errors.TooManyTables, bench.compared)
                continue
            found = bench.compared()
            self.assertEqual(found, expected)
            self.assertIs(type(found), tuple)
            self.assertEqual([type(number) for number in found], [int] * 3)
            shared["none" if found[2] == 0 else "all" if found[2] == found[0] else "some"] += 1
        self.assertGreater(min(shared.values()), 0)

    def test_no_change(self):
        bench = Bench(BLOCKS)
        found = self.check_unchanged(bench, errors.NoChange, bench.compared)
        self.assertIsInstance(found, errors.BenchError)
        bench.take(0)
        bench.undo()
        self.check_unchanged(bench, errors.NoChange, bench.compared)
        bench.redo()
        self.assertEqual(bench.compared(), (3, 2, 1))

    def test_no_change_comes_before_too_many_tables(self):
        bench = Bench(WITH_101)
        self.check_unchanged(bench, errors.NoChange, bench.compared)
        bench.take(0)
        bench.undo()
        self.check_unchanged(bench, errors.NoChange, bench.compared)

    def test_too_many_tables_before_or_after(self):
        bench = Bench(with_steps(WITH_101, WITH_101[3][:-1]))
        bench.put(WITH_101[3][-1])
        self.check_unchanged(bench, errors.TooManyTables, bench.compared)
        bench.take(5)
        self.check_unchanged(bench, errors.TooManyTables, bench.compared)
        bench.put((0, 0, 0, 0))
        self.assertEqual(bench.compared()[0], len(catalogue(with_steps(WITH_101, WITH_101[3][:-1]))))


if __name__ == "__main__":
    unittest.main()

"""Points 5 and 6: machines written as text and parsed from it."""

import random
import unittest

from mostspent.errors import InvalidLine, InvalidMachine
from mostspent.machines import fault
from mostspent.notation import format_machine, parse_machine

MACHINE = (3, 2, 2, ((0, 0, 1, 3), (1, 2, 0, 4), (0, 0, 1, 3)), (2, 0), (1,))
LINES = ["machine 3 2 2", "first 2 0", "last 1", "step 0 0 1 3", "step 1 2 0 4", "step 0 0 1 3"]
SMALLEST = (1, 0, 1, (), (), ())


def random_machine(source):
    """A machine of the form of point 1."""
    states, counters, letters = source.randint(1, 6), source.randint(0, 3), source.randint(1, 4)
    steps = []
    for _ in range(source.choice((0, 1, 2, 10, 100))):
        ends = (source.randrange(states), source.randrange(states))
        steps.append((source.randrange(letters), *ends, source.randint(0, 2 * counters)))
    firsts, lasts = (tuple(source.sample(range(states), source.randint(0, states))) for _ in range(2))
    return (states, counters, letters, tuple(steps), firsts, lasts)


class Written(unittest.TestCase):
    def test_a_machine_is_written_to_the_character(self):
        self.assertEqual(format_machine(MACHINE), "\n".join(LINES))

    def test_empty_parts_leave_their_word_alone_on_its_line(self):
        self.assertEqual(format_machine(SMALLEST), "machine 1 0 1\nfirst\nlast")
        self.assertEqual(format_machine((1, 0, 1, ((0, 0, 0, 0),), (), (0,))), "machine 1 0 1\nfirst\nlast 0\nstep 0 0 0 0")
        self.assertEqual(format_machine((2, 3, 4, (), (1, 0), ())), "machine 2 3 4\nfirst 1 0\nlast")

    def test_each_number_of_a_step_stands_at_its_place(self):
        text = format_machine((6, 3, 4, ((3, 4, 5, 6),), (5, 4, 3, 2, 1, 0), (0, 2, 1)))
        self.assertEqual(text, "machine 6 3 4\nfirst 5 4 3 2 1 0\nlast 0 2 1\nstep 3 4 5 6")

    def test_parsing_gives_the_machine(self):
        self.assertEqual(parse_machine("\n".join(LINES)), MACHINE)
        self.assertEqual(parse_machine("machine 1 0 1\nfirst\nlast"), SMALLEST)

    def test_a_parsed_machine_consists_of_tuples(self):
        machine = parse_machine("\n".join(LINES))
        self.assertIs(type(machine), tuple)
        for part in machine[3:] + machine[3]:
            self.assertIs(type(part), tuple)
        hash(machine)

    def test_parsing_what_is_written_gives_the_machine(self):
        source = random.Random(5)
        for _ in range(200):
            machine = random_machine(source)
            self.assertIsNone(fault(machine))
            self.assertEqual(parse_machine(format_machine(machine)), machine)

    def test_a_machine_of_100_steps_is_parsed(self):
        machine = (2, 1, 1, ((0, 1, 0, 2),) * 100, (0,), (1,))
        self.assertEqual(parse_machine(format_machine(machine)), machine)


class InvalidLines(unittest.TestCase):
    def check(self, number, lines):
        with self.subTest(lines=lines):
            with self.assertRaises(InvalidLine) as caught:
                parse_machine("\n".join(lines))
            self.assertEqual(caught.exception.number, number)

    def check_line(self, number, line):
        """Put the line in the place of the line with this number, which is then the first invalid one."""
        self.check(number, LINES[:number] + [line] + LINES[number + 1:])
        # A later invalid line changes nothing.
        self.check(number, LINES[:number] + [line] + LINES[number + 1:] + ["step"])

    def test_words_that_are_missing(self):
        for line in ("machine", "machine 3", "machine 3 2", "3 2 2", ""):
            self.check_line(0, line)
        for line in ("2 0", "2", ""):
            self.check_line(1, line)
            self.check_line(2, line)
        for line in ("step", "step 0", "step 0 0", "step 0 0 1", "0 0 1 3", ""):
            self.check_line(3, line)
            self.check_line(5, line)

    def test_words_that_are_too_many(self):
        for line in ("machine 3 2 2 2", "machine machine 3 2 2", "machine 3 2 2 0 0"):
            self.check_line(0, line)
        for line in ("step 0 0 1 3 0", "step step 0 0 1 3", "step 0 0 1 3 step"):
            self.check_line(4, line)

    def test_words_that_are_misspelt(self):
        for line in ("machin 3 2 2", "Machine 3 2 2", "MACHINE 3 2 2", "machines 3 2 2", "step 3 2 2", "machine3 2 2"):
            self.check_line(0, line)
        for line in ("firsts 2 0", "First 2 0", "fist 2 0", "last 2 0", "first2 0"):
            self.check_line(1, line)
        for line in ("lasts 1", "Last 1", "first 1", "LAST", "las"):
            self.check_line(2, line)
        for line in ("steps 0 0 1 3", "Step 0 0 1 3", "first 0 0 1 3", "last 0", "machine 3 2 2", "first", "last"):
            self.check_line(3, line)

    def test_words_that_are_empty_or_end_in_spaces(self):
        for number, line in enumerate(LINES):
            self.check_line(number, " " + line)
            self.check_line(number, line + " ")
            self.check_line(number, line.replace(" ", "  ", 1))
            self.check_line(number, "  ".join(line.rsplit(" ", 1)))
        for line in ("first ", " first", "first  "):
            self.check_line(1, line)
        for line in ("last ", " last", "last  "):
            self.check_line(2, line)
        self.check_line(0, " ")

    def test_numbers_that_are_not_written_so(self):
        wrong = (
            "00", "01", "010", "0000", "0001", "-1", "-0", "+1", "+0", "10000", "12345", "00001", "100000000000",
            "a", "1a", "a1", "0x1", "1.0", "1_0", "1e1", "1,", "\u00b2", "\u0661", "\uff11", "1\u0661", "\u2460", "\u00bd",
            "1\r", "1\t", "\t1", "1\u00a0", "\x0b1", "1\x0c", "1\x1c", "1\x85", "1\u2028", "1\u3000", "None", "zero", "0\x00",
        )
        for text in wrong:
            for place in range(3):
                words = ["3", "2", "2"]
                words[place] = text
                self.check_line(0, " ".join(["machine"] + words))
            for number, head in ((1, "first"), (2, "last")):
                self.check_line(number, f"{head} {text}")
                self.check_line(number, f"{head} {text} 0")
                self.check_line(number, f"{head} 0 {text}")
            for place in range(4):
                words = ["0", "0", "1", "3"]
                words[place] = text
                self.check_line(4, " ".join(["step"] + words))

    def test_words_are_parted_by_spaces_only(self):
        for number, line in enumerate(LINES):
            for other in ("\t", "\u00a0", "\x0b", "\r", ","):
                self.check_line(number, line.replace(" ", other))

    def test_lines_are_parted_by_line_feeds_only(self):
        for other in ("\r", "\r\n", "\x0b", "\x0c", "\x1c", "\x85", "\u2028", "\n\r"):
            with self.subTest(other=other), self.assertRaises(InvalidLine) as caught:
                parse_machine(other.join(LINES))
            self.assertEqual(caught.exception.number, 1 if other == "\n\r" else 0)

    def test_the_lines_at_the_beginning_are_needed(self):
        head, first, last = LINES[:3]
        self.check(0, [first, last] + LINES[3:])
        self.check(1, [head, last] + LINES[3:])
        self.check(2, [head, first] + LINES[3:])
        self.check(0, LINES[3:])

    def test_the_lines_at_the_beginning_stand_once(self):
        head, first, last = LINES[:3]
        self.check(1, [head, head, first, last] + LINES[3:])
        self.check(2, [head, first, first, last] + LINES[3:])
        self.check(3, [head, first, last, last] + LINES[3:])
        self.check(6, LINES + [last])

    def test_the_lines_at_the_beginning_stand_in_their_order(self):
        head, first, last = LINES[:3]
        self.check(0, [first, head, last])
        self.check(0, [first, last, head])
        self.check(0, [last, head, first])
        self.check(0, [last, first, head])
        self.check(1, [head, last, first])
        self.check(2, [head, first, LINES[3], last])

    def test_a_text_that_ends_too_early(self):
        self.check(1, LINES[:1])
        self.check(2, LINES[:2])
        self.check(0, [])
        self.check(0, ["machine 3 2"])
        self.check(1, ["machine 3 2 2", "first x"])

    def test_the_empty_text(self):
        with self.assertRaises(InvalidLine) as caught:
            parse_machine("")
        self.assertEqual(caught.exception.number, 0)

    def test_a_line_feed_at_the_end(self):
        for many in range(1, len(LINES) + 1):
            self.check(many, LINES[:many] + [""])
        self.check(3, ["machine 1 0 1", "first", "last", ""])

    def test_an_empty_line(self):
        for number in range(len(LINES)):
            self.check(number, LINES[:number] + [""] + LINES[number:])

    def test_the_first_of_several_invalid_lines_is_told(self):
        for number in range(len(LINES)):
            self.check(number, LINES[:number] + ["x"] * (len(LINES) - number))

    def test_invalid_lines_come_before_faults(self):
        self.check(3, ["machine 7 4 5", "first 9", "last 9 9", "step 0 0 0"])
        self.check(1, ["machine 0 0 0", "first 0 -1", "last"])
        self.check(2, ["machine 0 0 0", "first 0 0"])
        self.check(104, ["machine 1 0 1", "first", "last"] + ["step 0 0 0 0"] * 101 + ["step 0 0 0 00"])


class InvalidMachines(unittest.TestCase):
    def check(self, word, lines):
        with self.subTest(word=word, lines=lines[:5]):
            with self.assertRaises(InvalidMachine) as caught:
                parse_machine("\n".join(lines))
            self.assertEqual(caught.exception.word, word)

    def test_each_word(self):
        self.check("states", ["machine 0 1 1", "first", "last"])
        self.check("states", ["machine 7 1 1", "first", "last"])
        self.check("counters", ["machine 2 4 1", "first", "last"])
        self.check("letters", ["machine 2 1 0", "first", "last"])
        self.check("letters", ["machine 2 1 5", "first", "last"])
        for step in ("1 0 0 0", "0 2 0 0", "0 0 2 0", "0 0 0 3"):
            self.check("steps", ["machine 2 1 1", "first", "last", "step " + step])
        self.check("firsts", ["machine 2 1 1", "first 2", "last"])
        self.check("firsts", ["machine 2 1 1", "first 0 0", "last"])
        self.check("lasts", ["machine 2 1 1", "first", "last 0 2"])
        self.check("lasts", ["machine 2 1 1", "first", "last 1 0 1"])

    def test_the_first_of_several_words(self):
        self.check("states", ["machine 7 4 5", "first 9", "last 9", "step 9 9 9 99"])
        self.check("firsts", ["machine 6 3 4", "first 9", "last 9"])

    def test_101_steps(self):
        self.check("steps", ["machine 1 0 1", "first", "last"] + ["step 0 0 0 0"] * 101)

    def test_numbers_of_up_to_four_digits_are_well_written(self):
        self.check("states", ["machine 9999 0 1", "first", "last"])
        self.check("counters", ["machine 1 1000 1", "first", "last"])
        self.check("letters", ["machine 1 0 999", "first", "last"])
        self.check("steps", ["machine 1 0 1", "first", "last", "step 1234 0 0 0"])
        self.check("firsts", ["machine 1 0 1", "first 9999", "last"])
        self.check("lasts", ["machine 1 0 1", "first", "last 0 10"])


if __name__ == "__main__":
    unittest.main()

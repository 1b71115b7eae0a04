"""Points 37 and 38: tables, recipes and entries of catalogues, written and parsed."""

import random
import unittest

from mostspent.catalogues import catalogue, verdict
from mostspent.errors import InvalidLine, MostspentError
from mostspent.papers import format_entries, format_recipe, format_table, parse_entries, parse_recipe
from tests import plain
from tests.test_catalogues import WITH_100
from tests.test_costs import within_seconds
from tests.test_recipes import random_recipe

GROWS = "grows"
ALL = ((6, 4, 2), (0, 1, 3), (5, GROWS, None))

RECIPE = (("letter", 3), ("letter", 0), ("both", 0, 1), ("both", 2, 2), ("often", 3), ("both", 4, 0))
LINES = ["letter 3", "letter 0", "both 0 1", "both 2 2", "often 3", "both 4 0"]

ENTRIES = [
    (("letter", 0), ((1, None), (None, 0))),
    (("often", 0), ((GROWS, None), (None, 0))),
    (("both", 1, 0), ((6,),)),
]
WRITTEN = ["letter 0 = 1,./.,0", "often 0 = g,./.,0", "both 1 0 = 6"]

# Numbers that are not written so, whatever their place.
WRONG_NUMBERS = (
    "00", "01", "000", "0000", "-0", "-1", "+0", "+1", "00000", "10000", "", "x", "0x0", "0.", "0_0", "None", "zero",
    "0\t", "\t0", "0\r", "\x0b0", "0\x0c", "0\x1c", "0\x85", "0\u00a0",
    "\u0660", "0\u0660", "\uff10", "\u00b2", "\u00bd",
)


class Tables(unittest.TestCase):
    def test_each_value(self):
        self.assertEqual(format_table(ALL), "6,4,2/0,1,3/5,g,.")
        for action in range(7):
            self.assertEqual(format_table(((action,),)), str(action))
        self.assertEqual(format_table(((GROWS,),)), "g")
        self.assertEqual(format_table(((None,),)), ".")

    def test_tables_of_all_sizes(self):
        for size in range(1, 8):
            table = tuple(tuple((i + j) % 7 for j in range(size)) for i in range(size))
            expected = "/".join(",".join(str((i + j) % 7) for j in range(size)) for i in range(size))
            self.assertEqual(format_table(table), expected)

    def test_rows_and_columns_are_not_exchanged(self):
        self.assertEqual(format_table(((1, 2), (3, 4))), "1,2/3,4")

    def test_somewhat_beyond_the_limits(self):
        self.assertEqual(format_table(((7, 12), (GROWS, None))), "7,12/g,.")
        self.assertEqual(format_table(((0,) * 8,) * 8), "/".join(["0,0,0,0,0,0,0,0"] * 8))
        self.assertEqual(format_table(()), "")


class Written(unittest.TestCase):
    def test_recipes(self):
        self.assertEqual(format_recipe(RECIPE), "\n".join(LINES))
        for number, line in enumerate(RECIPE):
            self.assertEqual(format_recipe((line,)), LINES[number])

    def test_entries(self):
        self.assertEqual(format_entries(ENTRIES), "\n".join(WRITTEN))
        self.assertEqual(format_entries(ENTRIES[:1]), WRITTEN[0])

    def test_nothing(self):
        self.assertEqual(format_entries([]), "")
        self.assertEqual(format_recipe(()), "")

    def test_the_example_of_the_interface(self):
        entries = [(("letter", 0), ((1, None), (None, 0))), (("often", 0), (("grows", None), (None, 0)))]
        self.assertEqual(format_entries(entries), 'letter 0 = 1,./.,0\noften 0 = g,./.,0')

    def test_the_list_that_is_passed_stays(self):
        entries = list(ENTRIES)
        format_entries(entries)
        self.assertEqual(entries, ENTRIES)

    def test_numbers_of_several_digits(self):
        recipe = (("letter", 12), ("both", 999, 1000), ("often", 10))
        self.assertEqual(format_recipe(recipe), "letter 12\nboth 999 1000\noften 10")


class Parsed(unittest.TestCase):
    def test_recipes(self):
        self.assertEqual(parse_recipe("\n".join(LINES)), RECIPE)
        self.assertEqual(parse_recipe("letter 2"), (("letter", 2),))

    def test_entries(self):
        self.assertEqual(parse_entries("\n".join(WRITTEN)), ENTRIES)
        self.assertEqual(parse_entries("letter 1 = 6,4,2/0,1,3/5,g,."), [(("letter", 1), ALL)])

    def test_no_entries(self):
        self.assertEqual(parse_entries(""), [])

    def test_tables_of_different_sizes(self):
        entries = [(("letter", size % 4), ((None,) * size,) * size) for size in range(1, 8)]
        self.assertEqual(parse_entries(format_entries(entries)), entries)

    def test_what_is_written_is_given_back(self):
        source = random.Random(100)
        for _ in range(200):
            recipe = random_recipe(source, 4, 12)
            self.assertEqual(parse_recipe(format_recipe(recipe)), recipe)
            entries = [(line, plain.random_table(source, source.randint(1, 7))) for line in recipe]
            self.assertEqual(parse_entries(format_entries(entries)), entries)

    def test_catalogues_and_recipes_of_verdicts_are_given_back(self):
        for machine in plain.small_machines() + [WITH_100]:
            entries = catalogue(machine)
            self.assertEqual(parse_entries(format_entries(entries)), entries)
            answer = verdict(machine)
            if answer[0] == GROWS:
                self.assertEqual(parse_recipe(format_recipe(answer[2])), answer[2])

    def test_1000_lines_and_more(self):
        for many in (1000, 1200):
            recipe = (("letter", 3),) + tuple(("both", k, 0) for k in range(many - 1))
            entries = [(line, ((None,) * 7,) * 7) for line in recipe]
            with within_seconds(20):
                self.assertTrue(parse_recipe(format_recipe(recipe)) == recipe)
                self.assertTrue(parse_entries(format_entries(entries)) == entries)
        self.assertEqual(parse_recipe(format_recipe(recipe))[-1], ("both", 1198, 0))

    def test_the_kinds_of_values_and_a_new_list_each_time(self):
        recipe = parse_recipe("\n".join(LINES))
        self.assertEqual({type(part) for part in (recipe, *recipe)}, {tuple})
        for text in ("", "\n".join(WRITTEN)):
            entries = parse_entries(text)
            self.assertIs(type(entries), list)
            for entry in entries:
                self.assertEqual([type(part) for part in (entry, *entry, *entry[1])], [tuple] * (3 + len(entry[1])))
            entries.append(1)
            self.assertEqual(len(parse_entries(text)), len(entries) - 1)


class Invalid(unittest.TestCase):
    def check(self, parse, number, text):
        with self.subTest(text=text):
            with self.assertRaises(InvalidLine) as caught:
                parse(text)
            self.assertEqual(caught.exception.number, number)
            self.assertIsInstance(caught.exception, MostspentError)

    def check_line(self, line, number=5):
        """The line is invalid in the place of the one with this number, in recipes and, with a table, in entries."""
        for many in (number, len(LINES) - 1):
            lines = LINES[:number] + [line] + LINES[number + 1:many + 1]
            self.check(parse_recipe, number, "\n".join(lines))
            # A later invalid line changes nothing.
            self.check(parse_recipe, number, "\n".join(lines + ["x"]))
            tables = ["0", "1,2/.,g", "0", "5", "6", "g"]
            self.check(parse_entries, number, "\n".join(f"{line} = {table}" for line, table in zip(lines, tables)))

    def check_table(self, text):
        """The table is invalid, in the first entry and in a later one."""
        for number in range(3):
            lines = WRITTEN[:number] + [WRITTEN[number].split(" = ")[0] + " = " + text]
            self.check(parse_entries, number, "\n".join(lines))
            self.check(parse_entries, number, "\n".join(lines + ["x"]))


class InvalidRecipes(Invalid):
    def test_words_that_are_missing(self):
        for line in ("", "letter", "both", "often", "both 0", "0", "0 1", "3", " ", "  "):
            self.check_line(line)
            self.check_line(line, 0)

    def test_words_that_are_too_many(self):
        for line in ("letter 0 0", "letter letter 0", "letter 0 x", "both 0 1 2", "both 0 0 often", "often 0 1"):
            self.check_line(line)

    def test_words_that_are_misspelt(self):
        for line in (
            "Letter 0", "LETTER 0", "letters 0", "lette 0", "leter 0", "Both 0 0", "bth 0 0", "boths 0 0", "oftn 0",
            "Often 0", "row 0", "row 0 0", "step 0", "letter0", "both00", "g 0", "grows 0", "None 0", "letter,0",
        ):
            self.check_line(line)
            self.check_line(line, 0)

    def test_spaces(self):
        for line in ("letter 0", "both 0 1", "often 1"):
            for wrong in (" " + line, line + " ", line.replace(" ", "  "), line.replace(" ", "  ", 1)):
                self.check_line(wrong)
            for other in ("\t", "\u00a0", "\x0b", "\r", "", ",", "\u3000"):
                self.check_line(line.replace(" ", other))
                if other:
                    self.check_line(line + other)
        self.check_line("both 0  1")

    def test_numbers_that_are_not_written_so(self):
        for text in WRONG_NUMBERS:
            for line in (f"letter {text}", f"both {text} 0", f"both 0 {text}", f"often {text}"):
                self.check_line(line)

    def test_a_number_that_is_not_that_of_an_earlier_line(self):
        for number in range(len(LINES)):
            for wrong in (number, number + 1, 99, 999, 9999):
                for line in (f"both {wrong} 0", f"both 0 {wrong}", f"both {wrong} {wrong}", f"often {wrong}"):
                    self.check_line(line, number)
        # The number before it is that of an earlier line.
        for number in range(1, 6):
            earlier = number - 1
            for line in (f"both {earlier} 0", f"both 0 {earlier}", f"often {earlier}"):
                self.assertEqual(len(parse_recipe("\n".join(LINES[:number] + [line]))), number + 1)

    def test_a_letter_above_3(self):
        for letter in (4, 5, 10, 9999):
            self.check_line(f"letter {letter}")
            self.check_line(f"letter {letter}", 0)
        for letter in (0, 1, 2, 3):
            self.assertEqual(parse_recipe(f"letter {letter}"), (("letter", letter),))

    def test_the_empty_text(self):
        self.check(parse_recipe, 0, "")

    def test_a_line_feed_at_the_end(self):
        for many in range(1, len(LINES) + 1):
            self.check(parse_recipe, many, "\n".join(LINES[:many]) + "\n")

    def test_an_empty_line(self):
        for number in range(len(LINES)):
            self.check(parse_recipe, number, "\n".join(LINES[:number] + [""] + LINES[number:]))
        self.check(parse_recipe, 0, "\n")

    def test_lines_are_parted_by_line_feeds_only(self):
        for other in ("\r", "\x0b", "\x0c", "\x1c", "\x85", "\u2028", "\r\n", "  ", ";"):
            self.check(parse_recipe, 0, other.join(LINES[:2]))

    def test_an_entry_is_no_line_of_a_recipe(self):
        self.check(parse_recipe, 0, WRITTEN[0])
        self.check(parse_recipe, 1, LINES[0] + "\n" + WRITTEN[1])
        self.check(parse_recipe, 1, LINES[0] + "\nletter 0 =")


class InvalidEntries(Invalid):
    def test_a_line_of_a_recipe_is_no_entry(self):
        self.check(parse_entries, 0, LINES[0])
        self.check(parse_entries, 1, WRITTEN[0] + "\n" + LINES[1])

    def test_the_sign_between_that_is_missing_or_there_twice(self):
        for number in range(3):
            made, table = WRITTEN[number].split(" = ")
            for line in (
                f"{made} {table}", f"{made}={table}", f"{made} ={table}", f"{made}= {table}", f"{made}  = {table}",
                f"{made} =  {table}", f"{made} == {table}", f"{made} : {table}", f"{made} = = {table}",
                f"{made} = {table} = {table}", f"{made} = {made} = {table}", f" = {made} = {table}",
                f"{made} = {table} = ", f"{made} = {table} =", f"{made}\t=\t{table}", f"{made} = ", f"{made} =",
                f" = {table}", f"= {table}", f"{table} = {made}", f"{table}", " = ", "=",
            ):
                self.check(parse_entries, number, "\n".join(WRITTEN[:number] + [line] + WRITTEN[number + 1:]))

    def test_values_that_are_not_written_so(self):
        others = ("G", "grows", "gg", "..", "7", "8", "9", "10", "16", "60", "9999", "-", "g ", " .", "=", "*")
        for text in WRONG_NUMBERS + others:
            self.check_table(text)
            self.check_table(f"0,{text}/0,0")
            self.check_table(f"{text},0/0,0")
            self.check_table(f"0,0/0,{text}")

    def test_actions_up_to_6(self):
        for action in range(7):
            self.assertEqual(parse_entries(f"letter 0 = {action}"), [(("letter", 0), ((action,),))])
        self.check_table("7")

    def test_rows_of_different_lengths(self):
        for text in ("0,0/0", "0/0,0", "0,0/0,0,0", "0,0,0/0,0/0,0,0", "0,0,0/0,0,0/0,0", "0,0/0,0/0"):
            self.check_table(text)

    def test_more_or_fewer_rows_than_values(self):
        for text in ("0/0", "0,0", "0,0,0/0,0,0", "0,0/0,0/0,0", "0/0/0", "0,0,0"):
            self.check_table(text)
        for size in range(1, 8):
            for rows in range(1, 9):
                text = "/".join([",".join(["."] * size)] * rows)
                if rows == size:
                    self.assertEqual(parse_entries("letter 0 = " + text), [(("letter", 0), ((None,) * size,) * size)])
                else:
                    self.check_table(text)

    def test_no_rows_and_eight_rows(self):
        self.check_table("")
        self.check_table("/")
        self.check_table(",")
        self.check_table("/".join([",".join(["0"] * 8)] * 8))
        self.check_table("/".join([",".join(["0"] * 9)] * 9))

    def test_signs_at_an_end(self):
        for text in (
            "0/", "/0", "0,", ",0", "0,0/0,0/", "0,0/0,0,", ",0,0/0,0", "0,0//0,0", "0,,0/0,0", "0;0/0;0",
            "0, 0/0,0", "0,0 /0,0",
        ):
            self.check_table(text)

    def test_the_empty_text_alone_has_no_entries(self):
        self.check(parse_entries, 0, "\n")
        self.check(parse_entries, 0, " ")

    def test_a_line_feed_at_the_end(self):
        for many in (1, 2, 3):
            self.check(parse_entries, many, "\n".join(WRITTEN[:many]) + "\n")

    def test_an_empty_line(self):
        for number in range(3):
            self.check(parse_entries, number, "\n".join(WRITTEN[:number] + [""] + WRITTEN[number:]))

    def test_lines_are_parted_by_line_feeds_only(self):
        for other in ("\r", "\x0b", "\x0c", "\x1c", "\x85", "\u2028", "\r\n"):
            self.check(parse_entries, 0, other.join(WRITTEN[:2]))

    def test_the_first_of_several_invalid_lines(self):
        for number in range(3):
            lines = WRITTEN[:number] + ["both 9 9 = 0", "letter 4 = 0", "letter 0 = 7"]
            self.check(parse_entries, number, "\n".join(lines))


if __name__ == "__main__":
    unittest.main()

import unittest
from itertools import product

from tests.samples import END_STEPS, NO_STEPS, NO_TUPLES, PLAIN_STEPS
from tests.wrong import check_raises
from tillsteps.errors import BadSteps, InvalidText
from tillsteps.texts import read, write

RULES = ("down", "up", "near")
WORDS = ("part", "add", "even", "least", "most")
RANGES = {"part": (0, 200), "add": (-200, 200), "even": (2, 100), "least": (0, 1000), "most": (0, 1000)}
SIX = (("part", 90, "near"), ("add", -5), ("even", 5, "up"), ("least", 0), ("most", 1000), ("part", 0, "down"))
SIX_LINES = "part 90 near\nadd -5\neven 5 up\nleast 0\nmost 1000\npart 0 down"

# Words that stand for no number in any range, though some of them tell one to int.
NO_NUMBER_WORDS = [
    "+5", "05", "005", "-0", "+0", "00", "-05", "5.0", "5.", ".5", "5e0", "1_0", "0x5", "five", "x", "-", "--5", "5-",
    "5,", "(5)", "'5'", "True", "None", "up", "part", "5\t", "\t5", "5\r", "5\xa0", "\u0665", "\uff15", "5\u2003",
    "9" * 5000,
]


def line_of(word, number):
    return f"{word} {number}" + (" up" if word in ("part", "even") else "")


class TestExamples(unittest.TestCase):
    def test_interface(self):
        self.assertEqual(write((("part", 90, "up"), ("add", -5))).split("\n"), ["part 90 up", "add -5"])
        self.assertEqual(read("most 50"), (("most", 50),))
        self.assertEqual(read(""), ())
        check_raises(self, InvalidText, {"line": 2, "word": 2}, read, "add 5\npart 201 up")

    def test_defined_where_listed(self):
        for function in (write, read):
            self.assertEqual(function.__module__, "tillsteps.texts")


class TestWriteAndRead(unittest.TestCase):
    def check(self, steps, text):
        with self.subTest(text=text):
            self.assertEqual(write(steps), text)
            self.assertIs(type(write(steps)), str)
            found = read(text)
            self.assertEqual(found, steps)
            self.assertEqual({type(found)} | {type(step) for step in found}, {tuple})
            self.assertEqual([[type(thing) for thing in step] for step in found],
                             [[type(thing) for thing in step] for step in steps])

    def test_no_steps(self):
        self.check((), "")

    def test_one_step(self):
        self.check((("part", 90, "up"),), "part 90 up")
        self.check((("add", 5),), "add 5")
        self.check((("add", -5),), "add -5")
        self.check((("add", 0),), "add 0")
        self.check((("even", 7, "near"),), "even 7 near")
        self.check((("least", 30),), "least 30")
        self.check((("most", 45),), "most 45")

    def test_every_rule(self):
        for word, rule in product(("part", "even"), RULES):
            self.check(((word, 25, rule),), f"{word} 25 {rule}")

    def test_every_number(self):
        for word, (low, high) in RANGES.items():
            rest = ("up",) if word in ("part", "even") else ()
            for number in range(low, high + 1):
                self.check(((word, number) + rest,), line_of(word, number))

    def test_six_steps(self):
        self.check(SIX, SIX_LINES)
        for count in range(7):
            self.check(SIX[:count], "\n".join(SIX_LINES.split("\n")[:count]))

    def test_there_and_back(self):
        for steps in product(PLAIN_STEPS + END_STEPS, repeat=2):
            self.assertEqual(read(write(steps)), steps)
            self.assertEqual(len(write(steps).split("\n")), 2)

    def test_spaces(self):
        for text in (" part 90 up", "part 90 up ", "part  90 up", "part 90  up", "   part   90    up     "):
            self.assertEqual(read(text), (("part", 90, "up"),))
        self.assertEqual(read("  add   -5 \n   most 3"), (("add", -5), ("most", 3)))
        self.assertEqual(read("\n".join("  " + line.replace(" ", "   ") + " " for line in SIX_LINES.split("\n"))), SIX)


class TestInvalidText(unittest.TestCase):
    def check(self, text, line, word):
        check_raises(self, InvalidText, {"line": line, "word": word}, read, text)

    def check_line(self, text, word):
        """The line alone, behind others, and ahead of others that are wrong, too."""
        self.check(text, 1, word)
        self.check("add 5\n" + text, 2, word)
        self.check(" add 5\npart  90 up\neven 2 near\nleast 3\nmost 4\n" + text, 6, word)
        self.check(text + "\nadd 5", 1, word)
        self.check(text + "\n", 1, word)
        self.check("add 5\n" + text + "\nadd x\nadd\n\n\n\n\n", 2, word)

    def test_first_word(self):
        for word in ("sub", "Add", "ADD", "ad", "adds", "5", "-5", "up", "down", "x", "steps", "()", "add,", "add5",
                     "part\t", "\tadd", "add\r", "\x0badd", "\u00a0", "\t", "\r", "'add'"):
            for rest in ("", " 5", " 90 up", " x y z", " 5 5 5 5 5"):
                self.check_line(word + rest, 1)

    def test_only_spaces_part_words(self):
        for text in ("add\t5", "part\t90\tup", "add\u00a05", "add\r5", "add\x0b5", "add\x0c5", "add\u20285"):
            self.check_line(text, 1)
        self.check_line("part 90\tup", 2)
        self.check_line("part 90 up\t", 3)
        self.check_line("part 90 \tup", 3)
        self.check_line("add 5 \t", 3)
        self.check_line("add 5\r", 2)
        self.check_line("part 90 up\r", 3)

    def test_only_newlines_part_lines(self):
        self.check("add 5\radd 6", 1, 2)
        self.check("add 5\r\nadd 6", 1, 2)
        self.check("add 5\x0badd 6", 1, 2)
        self.check("add 5 \x0c add 6", 1, 3)
        self.check("add 5\u2028add 6", 1, 2)
        self.check("add 5 \\n add 6", 1, 3)

    def test_number_outside_its_range(self):
        for word, (low, high) in RANGES.items():
            for number in (low - 1, high + 1, low - 100, high + 100, -1000000, 10 ** 9, 10 ** 40):
                self.check_line(line_of(word, number), 2)

    def test_number_not_as_str_writes_it(self):
        for number in NO_NUMBER_WORDS:
            for word in WORDS:
                self.check(line_of(word, number), 1, 2)
                self.check("most 7\n" + line_of(word, number), 2, 2)
        for number in ("+5", "05", "-0", "5.0"):
            for word in WORDS:
                self.check_line(line_of(word, number), 2)
                self.check_line(f"{word} {number}", 2)
                self.check_line(f"{word} {number} nearly", 2)
        # An empty number is no word: the next one stands in its place, or the line ends too early.
        self.check_line("part  up", 2)
        self.check_line("even  down", 2)
        self.check_line("add ", 2)

    def test_minus_and_number_apart(self):
        self.check_line("add - 5", 2)
        self.check_line("add -  5", 2)

    def test_unknown_rule(self):
        for rule in ("nearly", "Up", "UP", "u", "upp", "even", "5", "up,", "downup", "part"):
            for rest in ("", " 5", " up"):
                self.check_line(f"part 90 {rule}{rest}", 3)
                self.check_line(f"even 5 {rule}{rest}", 3)

    def test_word_too_many(self):
        for rest in ("up", "5", "x", "add 5", "5 5 5"):
            self.check_line("part 90 up " + rest, 4)
            self.check_line("even 5 near " + rest, 4)
            self.check_line("add 5 " + rest, 3)
            self.check_line("least 5 " + rest, 3)
            self.check_line("most 5   " + rest, 3)

    def test_line_ends_too_early(self):
        for word in WORDS:
            self.check_line(word, 2)
            self.check_line(f"  {word}  ", 2)
        for word in ("part", "even"):
            self.check_line(f"{word} 50", 3)
            self.check_line(f" {word}   50  ", 3)

    def test_line_without_words(self):
        self.check("\n", 1, 1)
        self.check("\nadd 5", 1, 1)
        self.check("add 5\n", 2, 1)
        self.check("add 5\n ", 2, 1)
        self.check("add 5\n\nadd 5", 2, 1)
        self.check("add 5\n   \nadd 5", 2, 1)
        self.check("add 5\nadd 6\n\n", 3, 1)
        self.check("\n\n\n\n\n\n\n\n", 1, 1)
        self.check("add 5\n" * 5, 6, 1)

    def test_only_spaces(self):
        for count in (1, 2, 50):
            self.check(" " * count, 1, 1)
        self.check("  \n  ", 1, 1)

    def test_seventh_line(self):
        for line in ("", " ", "add 5", "add", "add x", "sub 5", "part 90 up up", "\t"):
            self.check(SIX_LINES + "\n" + line, 7, 1)
            self.check(SIX_LINES + "\n" + line + "\nadd 5\n", 7, 1)
        self.check("add 5\n" * 6, 7, 1)
        self.check("add 5\n" * 50, 7, 1)

    def test_fault_ahead_of_seventh_line(self):
        for at in range(6):
            lines = ["add 5"] * 8
            lines[at] = "add 201"
            self.check("\n".join(lines), at + 1, 2)
            lines[at] = ""
            self.check("\n".join(lines), at + 1, 1)

    def test_several_faults(self):
        self.check("part 201 nearly 5", 1, 2)
        self.check("part 20 nearly 5", 1, 3)
        self.check("sub 201 nearly", 1, 1)
        self.check("part 201", 1, 2)
        self.check("add 5\neven 1\nsub", 2, 2)
        self.check("add 5\neven 5\nsub", 2, 3)
        self.check("add 5 6\n\nsub", 1, 3)
        self.check("most 5\nadd\nadd 5 5", 2, 2)
        self.check("most 5\n\n add", 2, 1)


class TestWrongSteps(unittest.TestCase):
    def test_no_steps(self):
        for value in NO_TUPLES:
            check_raises(self, BadSteps, {"index": None}, write, value)
        for value in NO_STEPS:
            check_raises(self, BadSteps, {"index": 0}, write, (value,))
            check_raises(self, BadSteps, {"index": 2}, write, (("add", 5), ("most", 3), value, None))


class TestGeneral(unittest.TestCase):
    def test_repeated_calls(self):
        for _ in range(3):
            self.assertEqual(write(SIX), SIX_LINES)
            self.assertEqual(read(SIX_LINES), SIX)
            with self.assertRaises(InvalidText):
                read(SIX_LINES + "\n")
            with self.assertRaises(BadSteps):
                write(SIX + (("add", 5),))


if __name__ == "__main__":
    unittest.main()

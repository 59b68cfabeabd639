"""Point 22: texts."""

import random
import unittest

from slowship.errors import BadLine, BadText, NoRange
from slowship.texts import (
    is_sheet, names_in, names_text, number_in, number_text, pairs_in, pairs_text, ranges_in, ranges_text, set_in,
    sheet_in, sheet_text, unlike_lines, web_in, web_text, with_line, without_line,
)
from tests.support import all_runs, judged, refused, small_cases, told
from tests.test_webs import EMPTY

WEB = (("a", "b", "c"), (("x", "a", "b"), ("y", "b", "c")))
RANGES = (("x", 1, 3), ("y", 0, 2), ("z", 5, 5))
SHEET = (WEB, RANGES)
TEXT = "a b c\nx 1 3 a b\ny 0 2 b c\nz 5 5"
NOTHING = (EMPTY, ())
GREAT = 10 ** 399 + 7
# No text of anything: blanks too many, signs, line feeds, letters and digits of other scripts.
NONE = (
    "", " ", "\n", "- ", " -", "--", "-\n", ";", "; ", "-; -", "A", "a  b", " a", "a ", "a\n", "a\tb", "a;b", "a; ", "abcdefghi",
    "\u00e4", "\u03b1", "a\u00a0b", "a-b", "a_b", "a1", "'a'", "a,b",
)
NO_NUMBERS = (
    "", " ", "-", "+1", "--1", "-0", "00", "01", "-01", "1 ", " 1", "1\n", "\n1", "1_0", "1.0", "1e3", "0x1", "a", "- 1", "1-",
    "\u0661", "\u00b2", "1\u0662", "\uff11", "1 2", "1;", "0-", "None", "True",
)


def changed_texts(text):
    """Texts that are like a good one, changed in one place."""
    for place in range(len(text) + 1):
        for more in (" ", "\n", ";", "-", "0", "A", "\u0663", "+"):
            yield text[:place] + more + text[place:]
        if place < len(text):
            yield text[:place] + text[place + 1:]


class Numbers(unittest.TestCase):
    def test_told(self):
        for number, text in ((-7, "-7"), (0, "0"), (7, "7"), (10, "10"), (-100, "-100"), (2 ** 64, "18446744073709551616")):
            self.assertEqual(told(self, number_text, number), text)
            self.assertEqual(told(self, number_in, text), number)

    def test_there_and_back(self):
        chance = random.Random(1301)
        for digits in [*range(1, 70), 119, 120, 121, 180, 399, 400, 401, 1000, 9000]:
            for number in (10 ** digits, 10 ** digits - 1, 10 ** digits + 1, chance.randint(1, 10 ** digits)):
                for signed in (number, -number):
                    text = number_text(signed)
                    self.assertEqual(number_in(text), signed)
                    if digits < 4000:
                        self.assertEqual(text, str(signed))
        self.assertEqual(told(self, number_in, "1" + "0" * 398 + "7"), GREAT)
        self.assertEqual(told(self, number_text, -GREAT), "-1" + "0" * 398 + "7")
        self.assertEqual(told(self, number_text, 10 ** 60), "1" + "0" * 60)
        self.assertEqual(number_text(7 * 10 ** 5000), "7" + "0" * 5000)

    def test_bad(self):
        for text in NO_NUMBERS:
            refused(self, BadText, {}, number_in, text)
        for text in ("12", "-305"):
            for other in changed_texts(text):
                self.check(other)

    def check(self, text):
        """A number exactly if it is written as Python writes it."""
        try:
            number = number_in(text)
        except BadText:
            self.assertFalse(text.isascii() and text.removeprefix("-").isdigit() and str(int(text)) == text, text)
        else:
            self.assertEqual(str(number), text)


class Names(unittest.TestCase):
    def test_told(self):
        for names, text in (((), "-"), (("b", "a"), "b a"), (("a",), "a"), (("abcdefgh", "a", "a"), "abcdefgh a a")):
            self.assertEqual(told(self, names_text, names), text)
            self.assertEqual(told(self, names_in, text), names)
        for names in ((), ("a",), ("a", "ab", "b")):
            self.assertEqual(told(self, set_in, names_text(names)), names)

    def test_bad(self):
        for text in (*NONE, "a -", "- a", "a; b"):
            refused(self, BadText, {}, names_in, text)
            refused(self, BadText, {}, set_in, text)
        for text in ("b a", "a a", "a c b"):
            refused(self, BadText, {}, set_in, text)


class Webs(unittest.TestCase):
    def test_told(self):
        self.assertEqual(told(self, web_text, WEB), "a b c; x a b; y b c")
        self.assertEqual(told(self, web_in, "a b; x b a"), (("a", "b"), (("x", "b", "a"),)))
        self.assertEqual(told(self, web_in, "-"), EMPTY)
        self.assertEqual(told(self, web_text, EMPTY), "-")
        self.assertEqual(told(self, web_text, (("a", "b"), ())), "a b")

    def test_there_and_back(self):
        for web, ranges in small_cases(1302, 30):
            text = told(self, web_text, web)
            self.assertEqual(told(self, web_in, text), web)
            self.assertEqual(told(self, ranges_in, told(self, ranges_text, ranges)), ranges)
            run = all_runs(ranges)[0]
            self.assertEqual(told(self, pairs_in, told(self, pairs_text, run)), run)

    def test_bad(self):
        bad = ("a b; x a b; y b a", "a b; x a a", "a b; x a c", "a b; y a b; x a b", "a b; x a b; x a b", "b a; x a b",
               "a b; x a", "a b; x a b a", "a b; -", "a b;x a b", "a b;  x a b", "a b ; x a b", "a b; x a b;", "a b; x a b; ",
               "-; x a b", "a b\nx a b", "a b; x  a b", "a b; X a b", "a b; x a b\n", "; x a b")
        for text in (*NONE, *bad):
            refused(self, BadText, {}, web_in, text)

    def test_changed(self):
        good = "a b; x a b"
        for text in changed_texts(good):
            try:
                web = web_in(text)
            except BadText:
                continue
            self.assertEqual(web_text(web), text)
            self.assertNotEqual(text, good)


class Rows(unittest.TestCase):
    def test_told(self):
        self.assertEqual(told(self, ranges_text, RANGES[:2]), "x 1 3; y 0 2")
        self.assertEqual(told(self, ranges_in, "x 1 3; y 0 2"), RANGES[:2])
        self.assertEqual(told(self, pairs_text, (("x", 2), ("y", -1))), "x 2; y -1")
        self.assertEqual(told(self, pairs_in, "x 2; y -1"), (("x", 2), ("y", -1)))
        self.assertEqual(told(self, ranges_text, (("x", GREAT, GREAT),)), f"x {GREAT} {GREAT}")
        self.assertEqual(told(self, pairs_in, f"x -{GREAT}"), (("x", -GREAT),))
        for function in (ranges_text, pairs_text):
            self.assertEqual(told(self, function, ()), "-")
        for function in (ranges_in, pairs_in):
            self.assertEqual(told(self, function, "-"), ())

    def test_bad(self):
        for text in (*NONE, "a 1", "a 1 2 3", "a 2 1", "a -1 2", "a 1 -2", "b 1 2; a 1 2", "a 1 2; a 1 2", "a 1 2;b 1 2",
                     "a 1 2; ", "a 1 2; -", "-; a 1 2", "a 01 2", "1 1 2", "a 1 +2", "a 1\u0661 20", "a 1  2", "a 1 b", "A 1 2"):
            refused(self, BadText, {}, ranges_in, text)
        for text in (*NONE, "a", "a 1 2", "a b", "b 1; a 1", "a 1; a 2", "a 1;b 1", "a 1; ", "a 1; -", "a -0", "a 007", "a 1 ",
                     "1 1", "a +1", "a - 1", "a \u0661"):
            refused(self, BadText, {}, pairs_in, text)


class Sheets(unittest.TestCase):
    def test_judged(self):
        bad = [(WEB, RANGES[1:]), (WEB, ()), (WEB, RANGES[::-1]), (RANGES, WEB), (WEB, RANGES, ()), (WEB,),
               ((("a", "b"), (("x", "a", "b"), ("y", "b", "a"))), RANGES), (WEB, (("x", 3, 1), *RANGES[1:]))]
        judged(self, is_sheet, (), [SHEET, (EMPTY, RANGES), (WEB, RANGES[:2]), NOTHING, ((("a",), ()), ())], bad)

    def test_told(self):
        self.assertEqual(told(self, sheet_text, SHEET), TEXT)
        self.assertEqual(told(self, sheet_in, TEXT), SHEET)
        self.assertEqual(told(self, sheet_in, "-\nz 5 5"), (EMPTY, (("z", 5, 5),)))
        self.assertEqual(told(self, sheet_in, "-"), NOTHING)
        self.assertEqual(told(self, sheet_text, NOTHING), "-")
        self.assertEqual(told(self, sheet_in, "a b"), ((("a", "b"), ()), ()))
        self.assertEqual(told(self, sheet_in, f"a b\nx 0 {GREAT} b a"), ((("a", "b"), (("x", "b", "a"),)), (("x", 0, GREAT),)))

    def test_there_and_back(self):
        for web, ranges in small_cases(1303, 30):
            text = told(self, sheet_text, (web, ranges))
            self.assertEqual(told(self, sheet_in, text), (web, ranges))
            lines = text.split("\n")
            self.assertEqual(lines[0], names_text(web[0]))
            self.assertEqual([line.split(" ")[0] for line in lines[1:]], [row[0] for row in ranges])

    def test_bad_lines(self):
        rows = [("", 0), ("\nx 1 2", 0), ("b a", 0), ("a a", 0), ("a b; x a b", 0), ("a b ", 0), ("A", 0), ("- a", 0),
                ("a b\nx 1 3 a b\ny 0 1 b a", 2), ("a b\nx 1 3 a b\n", 2), ("a b\n", 1), ("a b\n\nx 1 2", 1), ("a b\nx 2 1", 1),
                ("a b\nx -1 1", 1), ("a b\nx 1 2 a c", 1), ("a b\nx 1 2 c a", 1), ("a b\nx 1 2 a a", 1), ("a b\nx 1 2 a", 1),
                ("a b\nx 1 2 a b a", 1), ("a b\nx 1", 1), ("a b\nx", 1), ("a b\ny 1 2\nx 1 2", 2), ("a b\nx 1 2\nx 1 2", 2),
                ("a b\nx 1 2\nx 1 3 a b", 2), ("a b\nx 01 2", 1), ("a b\nx 1  2", 1), ("a b\nx 1 2 ", 1), (" a b\nx 1 2", 0),
                ("a b\nX 1 2", 1), ("a b\nx 1 2; y 1 2", 1), ("a b\nx \u0661 2", 1), ("a b\n-", 1), ("a b\nx 1 2\r", 1),
                ("a b c\nx 0 0 a b\ny 0 0 b c\nz 0 0 c a", 3), ("a b c\nx 0 0 a b\ny 0 0 b c\nz 0 1\nza 0 0 c b\nzb 3", 4),
                ("-\nx 1 2 a b", 1), ("a b\nx 1 2 A b", 1), ("a b\nx a b 1 2", 1), ("b a\nx", 0)]
        for text, number in rows:
            refused(self, BadLine, {"number": number}, sheet_in, text)

    def test_changed(self):
        for text in changed_texts(TEXT):
            try:
                sheet = sheet_in(text)
            except BadLine as error:
                self.assertIn(error.number, range(text.count("\n") + 1))
            else:
                self.assertEqual(sheet_text(sheet), text)
                self.assertTrue(is_sheet(sheet))

    def test_long(self):
        names = ["n" + one + two for one in "abcdefgh" for two in "abcdefgh"]
        text = "\n".join(["a b", *[f"{name} 0 {'9' * 390} a b" for name in names]])
        sheet = sheet_in(text)
        self.assertEqual(len(sheet[0][1]), 64)
        self.assertEqual(sheet_text(sheet), text)


class Lines(unittest.TestCase):
    def test_with_line(self):
        self.assertEqual(told(self, with_line, SHEET, "y 1 9")[0], (("a", "b", "c"), (("x", "a", "b"),)))
        self.assertEqual(told(self, with_line, SHEET, "y 1 9")[1], (("x", 1, 3), ("y", 1, 9), ("z", 5, 5)))
        self.assertEqual(told(self, with_line, SHEET, "x 1 3 a b"), SHEET)
        self.assertEqual(told(self, with_line, SHEET, "x 1 3 b a")[0][1], (("x", "b", "a"), ("y", "b", "c")))
        self.assertEqual(told(self, with_line, SHEET, "z 0 1 a c")[0][1], (*WEB[1], ("z", "a", "c")))
        self.assertEqual(told(self, with_line, SHEET, "w 0 1"), (WEB, (("w", 0, 1), *RANGES)))
        # What would make a ring with the line that goes does not.
        self.assertEqual(told(self, with_line, SHEET, "y 0 2 c b")[0][1], (("x", "a", "b"), ("y", "c", "b")))
        self.assertEqual(told(self, with_line, NOTHING, f"z 0 {GREAT}"), (EMPTY, (("z", 0, GREAT),)))

    def test_with_line_bad(self):
        for line in ("w 0 1 c a", "y 0 2 b a", "w 2 1", "w -1 1", "w 0 1 a d", "w 0 1 d a", "w 0 1 a a", "w 0 1 a", "w 0", "w", "",
                     "-", "w 0 1 a c b", "w 0 1 ", " w 0 1", "w 0  1", "w 0 1\n", "w 0 1\nx 0 1", "W 0 1", "w 00 1", "w a b 0 1",
                     "w 0 \u0661", "a b c"):
            refused(self, BadText, {}, with_line, SHEET, line)

    def test_without_line(self):
        self.assertEqual(told(self, without_line, SHEET, "x"), ((("a", "b", "c"), (("y", "b", "c"),)), RANGES[1:]))
        self.assertEqual(told(self, without_line, SHEET, "z"), (WEB, RANGES[:2]))
        for name in ("w", "", "a", "X", "x 1 3 a b", "-"):
            refused(self, NoRange, {"name": name}, without_line, SHEET, name)
        refused(self, NoRange, {"name": "x"}, without_line, NOTHING, "x")

    def test_unlike_lines(self):
        self.assertEqual(told(self, unlike_lines, SHEET, with_line(SHEET, "y 0 2 a c")), ("y",))
        self.assertEqual(told(self, unlike_lines, SHEET, SHEET), ())
        self.assertEqual(told(self, unlike_lines, SHEET, NOTHING), ("x", "y", "z"))
        self.assertEqual(told(self, unlike_lines, NOTHING, SHEET), ("x", "y", "z"))
        self.assertEqual(told(self, unlike_lines, SHEET, with_line(SHEET, "w 0 1")), ("w",))
        self.assertEqual(told(self, unlike_lines, with_line(SHEET, "x 1 3"), SHEET), ("x",))
        self.assertEqual(told(self, unlike_lines, with_line(SHEET, "x 1 4 a b"), SHEET), ("x",))
        self.assertEqual(told(self, unlike_lines, with_line(SHEET, "x 0 3 a b"), SHEET), ("x",))
        # Whatever the first lines are.
        self.assertEqual(told(self, unlike_lines, SHEET, ((("a", "b", "c", "d"), WEB[1]), RANGES)), ())

    def test_by_texts(self):
        cases = list(small_cases(1304, 16, "pqr", "abc"))
        for one in cases:
            for other in cases:
                lines = [{line.split(" ")[0]: line for line in sheet_text(sheet).split("\n")[1:]} for sheet in (one, other)]
                names = [name for name in set(lines[0]) | set(lines[1]) if lines[0].get(name) != lines[1].get(name)]
                self.assertEqual(unlike_lines(one, other), tuple(sorted(names)))
                # Line by line one becomes the other one, where no ring comes between.
                for name in names:
                    self.check_line(one, lines[1].get(name), name)

    def check_line(self, sheet, line, name):
        try:
            changed = with_line(sheet, line)
        except BadText:
            left = without_line(sheet, name)
            self.assertFalse(is_sheet(((left[0][0], (*left[0][1], (name, *line.split(" ")[3:]))), sheet[1])))
        else:
            self.assertIn(line, sheet_text(changed).split("\n"))
            self.assertEqual(unlike_lines(sheet, changed), (name,))


if __name__ == "__main__":
    unittest.main()

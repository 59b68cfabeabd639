"""Point 24: a desk."""

import random
import unittest

from slowship.board import Board
from slowship.desk import is_request, replies
from slowship.errors import BadLine
from slowship.order import can_be_last
from slowship.spreads import late_ways
from slowship.texts import names_text, pairs_text, ranges_text, web_text
from slowship.times import slow_run, times
from slowship.webs import in_turn
from tests.support import DEEP, ODD, outcome, refused, told
from tests.test_texts import changed_texts

MADE = "come dock\ncome sail\ncome pilot\nwait load dock sail 3 9\nwait guide pilot sail 5 6"
GREAT = 10 ** 399
GOOD = (
    "come a", "wait x a b 0 0", "wait wait wait wait 0 0", "slack x 0 3", "slack x 3 3", "told x 0", "told x -3", "drop x", "go a", "undo",
    "web", "ranges", "many", "deeds", "range x", "between a", "spread a b", "spread a a b c", "sure a b", "sure a a", "turn", "last a",
    "last a b", "late a -3 b", "late a 0 a b", "slow -", "slow x", "slow x y", f"told x {GREAT}", f"slack x 0 {GREAT}", "come come",
    "range range", "go undo", "come abcdefgh",
)
BAD = (
    "", " ", "look", "come", "come ", " come a", "come  a", "come a ", "come a b", "come A", "come abcdefghi", "come -", "come 1", "Come a",
    "come a\n", "wait x a b 0", "wait x a b", "wait x a b 1 0", "wait x a b -1 0", "wait x a b 0 0 0", "wait x a b 0 -1", "wait x a 0 0",
    "wait x a b 00 1", "wait x a b 0  1", "slack x 3 2", "slack x -1 2", "slack x 1", "slack x", "slack x 1 2 3", "slack 1 2", "told x",
    "told x 1 2", "told x -0", "told x +1", "told x 01", "told x a", "told 1 x", "drop", "drop x y", "go", "go a b", "undo 1", "undo ",
    "undo a", "web a", "web ", "ranges x", "many 1", "deeds -", "range", "range x y", "between", "between a b", "spread a", "spread a -",
    "spread a c b", "spread a b b", "spread - a", "spread", "sure a", "sure a b c", "sure", "turn a", "turn -", "last", "last -",
    "last b a", "last a a", "last ", "late a b", "late a 3", "late a 3 -", "late a 3 c b", "late a b 3", "late 3 a b", "late a 3 b ", "slow",
    "slow ", "slow x x", "slow y x", "slow - -", "slow - x", "slow X", "slow x; y", "come \u00e4", "told x \u0663", "told x 1\u0663",
    "come\u00a0a", "come\ta", "come a\r", "undo\nundo", "range_of x", "twin", "len", "wait", "-", "0",
)


def asked(*lines):
    return replies("\n".join([MADE, *lines]))[5:]


def by_hand(board, line):
    """The reply to a request, by the functions and methods that it stands for."""
    word, *words = line.split(" ")
    number = [int(one) for one in words if one.lstrip("-").isdigit()]
    names = tuple([one for one in words if one.isalpha()])
    web, ranges = board.web(), board.ranges()
    if word in ("come", "drop", "go", "undo"):
        found = getattr(board, word)(*names)
        return {"come": str, "drop": names_text, "go": names_text, "undo": lambda _: "done"}[word](found)
    if word in ("wait", "slack", "told"):
        found = getattr(board, word)(*names, *number)
        return {True: "yes", False: "no"}[found] if word == "wait" else f"{found[0]} {found[1]}"
    if word in ("range", "between", "spread"):
        args = (names[0], names[1:]) if word == "spread" else names
        return "{} {}".format(*getattr(board, {"range": "range_of"}.get(word, word))(*args))
    if word == "late":
        return "; ".join([names_text(way) for way in late_ways(web, names[0], web, names[1:], ranges, number[0])]) or "none"
    if word == "last":
        return names_text(can_be_last(web, ranges, names))
    if word == "slow":
        return pairs_text(times(web, slow_run(ranges, names)))
    if word == "sure":
        return "yes" if board.sure(*names) else "no"
    return {"web": web_text(web), "ranges": ranges_text(ranges), "many": str(len(web[1])), "deeds": str(board.deeds()),
            "turn": names_text(in_turn(web))}[word]


def expected(board, line):
    found = outcome(by_hand, (board, line), {})
    if found[0] == "told":
        return found[1]
    return " ".join(["refused", found[1].__name__, *found[2].values()])


def some_line(chance):
    name, one, other = chance.choice("xyz"), chance.choice("abcd"), chance.choice("abcd")
    some = " ".join(sorted(chance.sample("abcd", chance.randint(1, 3))))
    low, number = chance.randint(0, 3), chance.randint(-2, 4)
    return chance.choice((
        f"come {one}", f"come {one}", f"wait {name} {one} {other} {low} {low + 2}", f"wait {name} {one} {other} {low} {low}",
        f"wait {name} {one} {other} {low} {low + 3}", f"slack {name} {low} {low + 1}", f"told {name} {number}", f"drop {name}",
        f"go {one}", "undo", "web", "ranges", "many", "deeds", f"range {name}", f"between {one}", f"spread {one} {some}",
        f"sure {one} {other}", "turn", f"last {some}", f"late {one} {number} {some}", f"slow {name}", "slow -", "slow x y",
    ))


class Requests(unittest.TestCase):
    def test_judged(self):
        for line in GOOD:
            self.assertIs(told(self, is_request, line), True, line)
            for thing in ((line,), [line], tuple(line.split(" ")), line.split(" "), line.encode(), line + "\n", " " + line):
                self.assertIs(is_request(thing), False)
        for line in BAD:
            self.assertIs(told(self, is_request, line), False, line)
        for thing in (*ODD, DEEP, 3, True, None, [], ()):
            self.assertIs(is_request(thing), False)

    def test_changed(self):
        for line in GOOD[:27]:
            for other in changed_texts(line):
                good = is_request(other)
                self.assertIs(good, outcome(replies, (other,), {})[0] == "told" and other != "" and "\n" not in other)


class Replies(unittest.TestCase):
    def test_told(self):
        self.assertEqual(told(self, replies, MADE), ["1", "2", "3", "yes", "yes"])
        lines = ("between sail", "sure dock sail", "spread sail dock pilot", "late sail 5 dock", "late sail 9 dock", "last dock sail",
                 "turn", "slow load", "slow -")
        self.assertEqual(asked(*lines), ["5 9", "yes", "5 9", "guide; load", "none", "sail", "dock pilot sail",
                                         "dock 0; pilot 0; sail 9", "dock 0; pilot 0; sail 5"])
        self.assertEqual(told(self, replies, ""), [])
        self.assertEqual(told(self, replies, "web\nranges\nmany\ndeeds\nturn\nslow -"), ["-", "-", "0", "0", "-", "-"])

    def test_deeds(self):
        self.assertEqual(asked("slack load 0 2", "told guide 6", "drop load", "go sail", "undo", "undo", "range load", "go pilot"),
                         ["3 9", "5 6", "dock sail", "guide", "done", "done", "0 2", "guide"])
        self.assertEqual(asked("come home", "wait trip sail home 1 1", "go home", "go pilot", "go dock", "web", "ranges", "many", "deeds"),
                         ["4", "no", "trip", "guide", "load", "sail", "-", "0", "10"])
        self.assertEqual(asked("sure sail dock", "spread dock sail", "late dock -99 sail"), ["no", "-9 -5", "-"])
        self.assertEqual(asked(f"slack load 0 {GREAT}", "between sail", "range load"), ["3 9", f"5 {GREAT}", f"0 {GREAT}"])

    def test_refused(self):
        self.assertEqual(
            asked("told load 10", "told load -1", "drop x", "wait back sail dock 1 1", "wait load x y 0 0", "wait new x sail 0 0",
                  "come dock", "slow x", "slow guide x", "go x", "range x", "slack x 0 0", "told x 0", "between x", "spread x y",
                  "spread sail dock x", "sure x y", "sure sail y", "last dock x", "late x 0 y", "late sail 0 y"),
            ["refused Unfit", "refused Unfit", "refused NoArc x", "refused Ring", "refused Twice load", "refused NoEvent x",
             "refused Twice dock", "refused NoRange x", "refused NoRange x", "refused NoEvent x", "refused NoArc x", "refused NoArc x",
             "refused NoArc x", "refused NoEvent x", "refused NoEvent x", "refused NoEvent x", "refused NoEvent x", "refused NoEvent y",
             "refused NoEvent x", "refused NoEvent x", "refused NoEvent y"])
        # What is refused changes nothing, and is no deed.
        before = asked("web", "ranges", "deeds")
        self.assertEqual(asked("told load 10", "drop x", "come dock", "wait back sail dock 1 1", "web", "ranges", "deeds")[4:], before)
        self.assertEqual(told(self, replies, "undo\ncome a\nundo\nundo"), ["refused NothingDone", "1", "done", "refused NothingDone"])

    def test_against_boards(self):
        chance = random.Random(1501)
        seen = {}
        for _ in range(60):
            first = ["come a", "come b", "come c", "wait x a b 0 3", "wait y a c 1 2"]
            lines = [*first[:chance.randint(0, 5)], *[some_line(chance) for _ in range(50)]]
            board = Board()
            found = told(self, replies, "\n".join(lines))
            for line, reply in zip(lines, found):
                self.assertTrue(is_request(line))
                self.assertEqual(reply, expected(board, line), line)
                word = line.split(" ")[0]
                seen.setdefault(word, set()).add(reply.split(" ")[1] if reply.startswith("refused") else "")
        self.assertEqual(len(seen), 19)
        self.assertTrue(all("" in row for row in seen.values()))
        self.assertEqual(set().union(*seen.values()), {"", "Twice", "NoEvent", "NoArc", "NoRange", "Ring", "Unfit", "NothingDone"})

    def test_bad_lines(self):
        for line in BAD:
            if line and "\n" not in line:
                refused(self, BadLine, {"number": 0}, replies, line)
                refused(self, BadLine, {"number": 5}, replies, MADE + "\n" + line)
        refused(self, BadLine, {"number": 1}, replies, "turn\nlook")
        refused(self, BadLine, {"number": 0}, replies, "look\nlook")
        # Ahead of all else: the line that is refused comes ahead of it. Behind a line feed one more line begins.
        refused(self, BadLine, {"number": 1}, replies, "undo\ncome")
        refused(self, BadLine, {"number": 1}, replies, "turn\n")
        refused(self, BadLine, {"number": 0}, replies, "\n")
        refused(self, BadLine, {"number": 1}, replies, "turn\n\nturn")
        refused(self, BadLine, {"number": 0}, replies, " ")


if __name__ == "__main__":
    unittest.main()

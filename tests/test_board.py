"""Point 23: boards."""

import inspect
import random
import unittest

from slowship.board import Board
from slowship.errors import NoArc, NoEvent, NothingDone, Ring, Twice, Unfit
from slowship.order import surely_ahead
from slowship.spreads import greatest_spread, least_spread
from slowship.times import greatest_time, least_time
from slowship.webs import arcs_from, arcs_into, is_ranges, is_web, with_arc, with_event, with_range, without_arc, without_event
from tests.support import has_list, in_rows, lists, outcome

GREAT = 10 ** 60


def do(test, board, name, *args):
    """What a method tells, asked by position, by names on a twin, and with lists for tuples on another one."""
    before = board.twin()
    method = getattr(board, name)
    names = list(inspect.signature(method).parameters)
    others = board.twin(), board.twin()
    first = outcome(method, args, {})
    named = outcome(getattr(others[0], name), (), dict(zip(names, args)))
    listed = outcome(getattr(others[1], name), tuple([lists(part) for part in args]), {})
    test.assertEqual(repr(named), repr(first))
    test.assertEqual(repr(listed), repr(first))
    for other in others:
        same_boards(test, board, other)
    if first[0] == "raised":
        same_boards(test, board, before)
    elif name != "twin":
        test.assertFalse(has_list(first[1]))
    return first


def same_boards(test, one, other):
    test.assertTrue(one == other)
    test.assertFalse(one != other)
    test.assertEqual((one.web(), one.ranges(), one.deeds(), len(one)), (other.web(), other.ranges(), other.deeds(), len(other)))


def tells(test, board, expected, name, *args):
    found = do(test, board, name, *args)
    test.assertEqual(found, ("told", expected))
    test.assertEqual(repr(found[1]), repr(expected))


def refuses(test, board, error, kept, name, *args):
    test.assertEqual(do(test, board, name, *args), ("raised", error, kept))


def harbour():
    board = Board()
    for event in ("dock", "sail", "pilot"):
        board.come(event)
    board.wait("load", "dock", "sail", 3, 9)
    board.wait("guide", "pilot", "sail", 5, 6)
    return board


class Deeds(unittest.TestCase):
    def test_new(self):
        board = Board()
        self.assertEqual((board.web(), board.ranges(), len(board), board.deeds()), (((), ()), (), 0, 0))
        refuses(self, board, NothingDone, {}, "undo")
        refuses(self, board, NoArc, {"name": "x"}, "range_of", "x")
        refuses(self, board, NoEvent, {"event": "x"}, "between", "x")
        refuses(self, board, NoEvent, {"event": "x"}, "go", "x")
        self.assertEqual(board, Board())
        self.assertFalse(board.twin() is board)

    def test_come_and_wait(self):
        board = Board()
        tells(self, board, 1, "come", "dock")
        tells(self, board, 2, "come", "sail")
        tells(self, board, 3, "come", "pilot")
        tells(self, board, True, "wait", "load", "dock", "sail", 3, 9)
        tells(self, board, True, "wait", "guide", "pilot", "sail", 5, 6)
        tells(self, board, 4, "come", "home")
        tells(self, board, False, "wait", "trip", "sail", "home", 1, 1)
        tells(self, board, True, "wait", "again", "dock", "sail", 0, 0)
        self.assertEqual((len(board), board.deeds()), (4, 8))
        self.assertEqual(board.web(), (("dock", "home", "pilot", "sail"), (
            ("again", "dock", "sail"), ("guide", "pilot", "sail"), ("load", "dock", "sail"), ("trip", "sail", "home"))))
        self.assertEqual(board.ranges(), (("again", 0, 0), ("guide", 5, 6), ("load", 3, 9), ("trip", 1, 1)))
        # It was told ahead of the ARC: ahead, and with it, it always is.
        tells(self, board, True, "wait", "late", "pilot", "home", GREAT, 2 * GREAT)
        tells(self, board, (GREAT, 2 * GREAT), "between", "home")

    def test_slack_told(self):
        board = harbour()
        tells(self, board, (3, 9), "slack", "load", 0, GREAT)
        tells(self, board, (0, GREAT), "range_of", "load")
        tells(self, board, (0, GREAT), "told", "load", 7)
        tells(self, board, (7, 7), "range_of", "load")
        tells(self, board, (7, 7), "between", "sail")
        refuses(self, board, Unfit, {}, "told", "load", 8)
        refuses(self, board, Unfit, {}, "told", "load", 6)
        refuses(self, board, Unfit, {}, "told", "load", -GREAT)
        tells(self, board, (7, 7), "told", "load", 7)
        tells(self, board, (5, 6), "told", "guide", 5)
        tells(self, board, (5, 5), "slack", "guide", 5, 6)
        tells(self, board, (5, 6), "told", "guide", 6)
        self.assertEqual(board.deeds(), 5 + 6)
        self.assertEqual(board.ranges(), (("guide", 6, 6), ("load", 7, 7)))

    def test_drop_go(self):
        board = harbour()
        tells(self, board, ("pilot", "sail"), "drop", "guide")
        self.assertEqual((board.ranges(), len(board)), ((("load", 3, 9),), 1))
        refuses(self, board, NoArc, {"name": "guide"}, "drop", "guide")
        tells(self, board, (), "go", "pilot")
        board.come("home")
        board.wait("trip", "sail", "home", 1, 1)
        tells(self, board, ("load", "trip"), "go", "sail")
        self.assertEqual((board.web(), board.ranges()), ((("dock", "home"), ()), ()))
        refuses(self, board, NoEvent, {"event": "sail"}, "go", "sail")
        tells(self, board, None, "undo")
        self.assertEqual(board.web()[1], (("load", "dock", "sail"), ("trip", "sail", "home")))
        tells(self, board, (3, 9), "range_of", "load")

    def test_undo(self):
        board = harbour()
        states = [board.twin()]
        steps = [("slack", "load", 3, 9), ("told", "load", 4), ("come", "home"), ("wait", "trip", "sail", "home", 1, 2),
                 ("drop", "load"), ("go", "sail"), ("come", "sail"), ("told", "no", 3), ("go", "no"), ("come", "home")]
        for step in steps:
            done = outcome(getattr(board, step[0]), step[1:], {})[0] == "told"
            if done:
                states.append(board.twin())
            self.assertEqual(board.deeds(), states[0].deeds() + len(states) - 1)
        # The first one changed nothing, and is a deed all the same.
        self.assertEqual(len(states), 8)
        self.assertEqual(states[0], states[1])
        for state in reversed(states[:-1]):
            self.assertIsNone(board.undo())
            same_boards(self, board, state)
        for _ in range(5):
            board.undo()
        same_boards(self, board, Board())
        refuses(self, board, NothingDone, {}, "undo")
        tells(self, board, 1, "come", "a")

    def test_twins(self):
        board = harbour()
        twin = board.twin()
        self.assertEqual(type(twin), Board)
        twin.drop("load")
        self.assertNotEqual(twin, board)
        self.assertEqual((len(board), board.deeds(), twin.deeds()), (2, 5, 6))
        board.undo()
        board.undo()
        self.assertEqual((twin.deeds(), len(twin)), (6, 1))
        twin.undo()
        twin.undo()
        twin.undo()
        same_boards(self, twin, board)
        board.come("home")
        self.assertNotIn("home", twin.web()[0])

    def test_against_webs(self):
        chance = random.Random(1401)
        refusals = set()
        for _ in range(40):
            board, past, state = Board(), [], (((), ()), ())
            for _ in range(40):
                name, args = some_deed(chance)
                expected = plain_deed(state, past, name, args)
                found = do(self, board, name, *args)
                if expected[0] == "raised":
                    self.assertEqual(found, expected)
                    refusals.add(expected[1])
                    continue
                state, past, reply = expected[1:]
                self.assertEqual(found, ("told", reply), (name, args))
                self.assertEqual((board.web(), board.ranges(), board.deeds()), (*state, len(past)))
                self.assertEqual([row[0] for row in board.ranges()], [arc[0] for arc in board.web()[1]])
                self.assertTrue(is_web(board.web()) and is_ranges(board.ranges()))
        self.assertEqual(refusals, {Twice, NoEvent, Ring, NoArc, Unfit, NothingDone})


def some_deed(chance):
    name = chance.choice(("come", "come", "wait", "wait", "wait", "slack", "told", "drop", "go", "undo"))
    low = chance.randint(0, 3)
    arc, one, other = chance.choice("xyz"), chance.choice("abcd"), chance.choice("abcd")
    args = {"come": (one,), "wait": (arc, one, other, low, low + chance.randint(0, 3)), "slack": (arc, low, low + 2),
            "told": (arc, chance.randint(-1, 5)), "drop": (arc,), "go": (one,), "undo": ()}
    return name, args[name]


def plain_deed(state, past, name, args):
    """What a deed does, and tells, by the functions of the WEB alone."""
    (web, ranges), reply = state, None
    try:
        if name == "undo":
            return ("told", past[-1], past[:-1], None) if past else ("raised", NothingDone, {})
        if name == "come":
            web = with_event(web, *args)
            reply = len(web[0])
        if name == "wait":
            reply = with_arc(web, *args[:3]) and surely_ahead(web, ranges, args[1], args[2])
            web, ranges = with_arc(web, *args[:3]), with_range(ranges, args[0], *args[3:])
        if name in ("slack", "told"):
            without_arc(web, args[0])
            reply = [row[1:] for row in ranges if row[0] == args[0]][0]
            if name == "told" and not reply[0] <= args[1] <= reply[1]:
                return "raised", Unfit, {}
            ranges = with_range(ranges, args[0], args[1], args[-1])
        if name == "drop":
            reply = [arc[1:] for arc in web[1] if arc[0] == args[0]]
            web, reply = without_arc(web, args[0]), reply[0] if reply else None
        if name == "go":
            reply = tuple(sorted(arcs_from(web, *args) + arcs_into(web, *args)))
            web = without_event(web, *args)
    except (Twice, NoEvent, NoArc, Ring) as error:
        return "raised", error.__class__, vars(error)
    names = [arc[0] for arc in web[1]]
    return "told", (web, tuple([row for row in ranges if row[0] in names])), [*past, state], reply


class Asked(unittest.TestCase):
    def test_told(self):
        board = harbour()
        tells(self, board, (5, 9), "between", "sail")
        tells(self, board, (0, 0), "between", "dock")
        tells(self, board, True, "sure", "dock", "sail")
        tells(self, board, False, "sure", "sail", "dock")
        tells(self, board, True, "sure", "sail", "sail")
        tells(self, board, (5, 9), "spread", "sail", ("dock", "pilot"))
        tells(self, board, (-9, -5), "spread", "dock", ("pilot", "sail"))
        tells(self, board, (3, 9), "range_of", "load")
        self.assertEqual((len(board), board.deeds()), (2, 5))

    def test_against_functions(self):
        chance = random.Random(1402)
        for _ in range(30):
            board = Board()
            for event in "abcd":
                board.come(event)
            for name in "pqrst":
                one, other = chance.sample("abcd", 2)
                low = chance.randint(0, 3)
                arcs = [*board.web()[1], (name, one, other)]
                if in_rows(arcs):
                    tells(self, board, surely_ahead(board.web(), board.ranges(), one, other),
                          "wait", name, one, other, low, low + chance.randint(0, 3))
            web, ranges = board.web(), board.ranges()
            for event in "abcd":
                tells(self, board, (least_time(web, ranges, event), greatest_time(web, ranges, event)), "between", event)
                for events in (("a",), ("b", "d"), ("a", "b", "c", "d")):
                    spans = (least_spread(web, event, web, events, ranges), greatest_spread(web, event, web, events, ranges))
                    tells(self, board, spans, "spread", event, events)
                for other in "abcd":
                    tells(self, board, surely_ahead(web, ranges, event, other), "sure", event, other)
            self.assertEqual(len(board), len(web[1]))

    def test_equal(self):
        one, other = harbour(), Board()
        for event in ("pilot", "sail", "dock"):
            other.come(event)
        self.assertFalse(one == other)
        other.wait("guide", "pilot", "sail", 5, 6)
        other.wait("load", "dock", "sail", 3, 8)
        self.assertTrue(one != other)
        self.assertFalse(one == other)
        other.slack("load", 3, 9)
        # The same RANGES, but other EVENTS, or other ends of an ARC.
        lone, turned = Board(), harbour()
        lone.come("dock")
        self.assertFalse(lone == Board())
        self.assertTrue(lone != Board())
        turned.drop("load")
        turned.wait("load", "sail", "dock", 3, 9)
        self.assertEqual(turned.ranges(), one.ranges())
        self.assertFalse(turned == one)
        # Made by other deeds, more of them.
        self.assertTrue(one == other)
        self.assertFalse(one != other)
        self.assertIs(one == one, True)
        for thing in (None, 0, 2, "", (), [], (one.web(), one.ranges()), one.web(), Board, object(), {}):
            self.assertIs(one == thing, False)
            self.assertIs(thing == one, False)
            self.assertIs(one != thing, True)
            self.assertIs(Board() == thing, False)

    def test_no_iteration(self):
        for board in (Board(), harbour()):
            for ask in (iter, list, tuple, sorted, sum, set, lambda row: [*row], lambda row: "load" in row, reversed, enumerate):
                with self.assertRaises(TypeError):
                    ask(board)


class Wrong(unittest.TestCase):
    def test_come_wait(self):
        board = harbour()
        refuses(self, board, Twice, {"name": "dock"}, "come", "dock")
        refuses(self, board, Twice, {"name": "load"}, "wait", "load", "no", "none", 1, 2)
        refuses(self, board, NoEvent, {"event": "no"}, "wait", "new", "no", "none", 1, 2)
        refuses(self, board, NoEvent, {"event": "none"}, "wait", "new", "dock", "none", 1, 2)
        refuses(self, board, Ring, {}, "wait", "new", "sail", "dock", 1, 2)
        refuses(self, board, Ring, {}, "wait", "new", "sail", "sail", 1, 2)

    def test_no_arc(self):
        board = harbour()
        for name in ("no", "dock", ""):
            kept = {"name": name}
            refuses(self, board, NoArc, kept, "range_of", name)
            refuses(self, board, NoArc, kept, "slack", name, 1, 2)
            refuses(self, board, NoArc, kept, "told", name, -GREAT)
            refuses(self, board, NoArc, kept, "drop", name)

    def test_no_event(self):
        board = harbour()
        refuses(self, board, NoEvent, {"event": "load"}, "between", "load")
        refuses(self, board, NoEvent, {"event": "no"}, "spread", "no", ("none",))
        refuses(self, board, NoEvent, {"event": "none"}, "spread", "sail", ("dock", "none", "nor"))
        refuses(self, board, NoEvent, {"event": "no"}, "sure", "no", "none")
        refuses(self, board, NoEvent, {"event": "none"}, "sure", "dock", "none")
        refuses(self, board, NoEvent, {"event": "no"}, "go", "no")


if __name__ == "__main__":
    unittest.main()

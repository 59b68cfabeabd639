"""Point 7: order."""

import unittest

from slowship.errors import NoEvent, NoRange
from slowship.order import (
    can_be_last, classes, is_order_paper, is_sure_row, open_pairs, order_pairs, order_paper, steps, surely_ahead,
    surely_last,
)
from slowship.spreads import greatest_spread
from tests.support import all_runs, judged, length_in, refused, slow, small_cases, subsets, time_in, told, ways_in
from tests.test_webs import EMPTY, RANGES, WEB

TWIN = (("a", "b", "x", "z"), (("s", "x", "a"), ("t", "x", "b"), ("u", "z", "x")))
FIXED = (("s", 3, 3), ("t", 3, 3), ("u", 0, 100))
GREAT = 10 ** 60
LACK = (("p", "q"), (("b", "q", "p"), ("d", "q", "p")))


def all_times(web, ranges):
    """In each RUN the time of each EVENT."""
    return [{event: time_in(web, run, event) for event in web[0]} for run in all_runs(ranges)]


def ahead_in(times, one, other):
    return all(row[one] <= row[other] for row in times)


class Order(unittest.TestCase):
    def test_told(self):
        self.assertIs(told(self, surely_ahead, WEB, RANGES, "dock", "sail"), True)
        self.assertIs(told(self, surely_ahead, WEB, RANGES, "cargo", "sail"), False)
        self.assertIs(told(self, surely_ahead, WEB, RANGES, "sail", "sail"), True)
        self.assertIs(told(self, surely_ahead, TWIN, FIXED, "a", "b"), True)
        self.assertIs(told(self, surely_ahead, TWIN, FIXED, "b", "a"), True)
        self.assertEqual(told(self, open_pairs, WEB, RANGES), (("cargo", "crane"), ("cargo", "dock"), ("cargo", "sail")))
        self.assertEqual(told(self, order_pairs, TWIN, FIXED)[:2], (("a", "b"), ("b", "a")))
        self.assertEqual(told(self, classes, TWIN, FIXED), (("a", "b"), ("x",), ("z",)))
        self.assertEqual(told(self, steps, TWIN, FIXED), ((("x",), ("a", "b")), (("z",), ("x",))))

    def test_edges(self):
        for function in (order_pairs, open_pairs, classes, steps):
            self.assertEqual(told(self, function, EMPTY, ()), ())
            self.assertEqual(told(self, function, EMPTY, FIXED), ())
        still = (("a", "b", "c"), ())
        self.assertEqual(told(self, classes, still, ()), (("a", "b", "c"),))
        self.assertEqual(told(self, steps, still, ()), ())
        self.assertEqual(told(self, open_pairs, still, ()), ())
        self.assertEqual(len(told(self, order_pairs, still, ())), 6)
        self.assertEqual(told(self, can_be_last, still, (), ("a", "c")), ("a", "c"))
        self.assertEqual(told(self, surely_last, still, (), ("a", "c")), ("a", "c"))
        self.assertEqual(told(self, can_be_last, still, (), ("a",)), ("a",))
        self.assertEqual(told(self, surely_last, WEB, RANGES, ("cargo",)), ("cargo",))
        self.assertEqual(told(self, can_be_last, WEB, RANGES, ("pilot",)), ("pilot",))

    def test_great_numbers(self):
        web = (("a", "b", "o"), (("x", "o", "a"), ("y", "o", "b")))
        near, far = (("x", 2 ** 65, GREAT), ("y", GREAT, GREAT)), (("x", 2 ** 65, GREAT + 1), ("y", GREAT, GREAT))
        self.assertIs(told(self, surely_ahead, web, near, "a", "b"), True)
        self.assertIs(told(self, surely_ahead, web, far, "a", "b"), False)
        self.assertEqual(told(self, order_paper, web, far, "a", "b"), ("x",))
        self.assertEqual(told(self, can_be_last, web, near, ("a", "b")), ("a", "b"))
        self.assertEqual(told(self, surely_last, web, near, ("a", "b")), ("b",))

    def test_pairs_by_trying(self):
        for web, ranges in small_cases(31, 40):
            times = all_times(web, ranges)
            pairs = [(one, other) for one in web[0] for other in web[0] if one != other]
            ahead = [pair for pair in pairs if ahead_in(times, *pair)]
            self.assertEqual(told(self, order_pairs, web, ranges), tuple(ahead))
            free = [pair for pair in pairs if pair[0] < pair[1] and pair not in ahead and pair[::-1] not in ahead]
            self.assertEqual(told(self, open_pairs, web, ranges), tuple(free))
            for one in web[0]:
                for other in web[0]:
                    self.assertIs(told(self, surely_ahead, web, ranges, one, other), ahead_in(times, one, other))

    def test_classes_by_trying(self):
        # Lengths that do not vary, and are alike, put many EVENTS together.
        for web, ranges in small_cases(32, 60, "opqrst", "abcdef"):
            ranges = tuple([(name, low % 2, low % 2) if name < "s" else (name, low, high) for name, low, high in ranges])
            times = all_times(web, ranges)
            found = sorted({tuple([one for one in web[0] if ahead_in(times, one, event) and ahead_in(times, event, one)])
                            for event in web[0]})
            self.assertEqual(told(self, classes, web, ranges), tuple(found))
            pairs = [(one, other) for one in found for other in found if one != other and ahead_in(times, one[0], other[0])]
            nexts = [(one, other) for one, other in pairs
                     if not any((one, third) in pairs and (third, other) in pairs for third in found)]
            self.assertEqual(told(self, steps, web, ranges), tuple(nexts))


class Last(unittest.TestCase):
    def test_told(self):
        self.assertEqual(told(self, can_be_last, WEB, RANGES, ("cargo", "crane", "dock")), ("cargo", "crane"))
        self.assertEqual(told(self, surely_last, WEB, RANGES, ("crane", "dock", "sail")), ("sail",))
        self.assertEqual(told(self, surely_last, WEB, RANGES, ("cargo", "sail")), ())
        self.assertEqual(told(self, surely_last, TWIN, FIXED, ("a", "b", "x")), ("a", "b"))
        self.assertEqual(told(self, can_be_last, TWIN, FIXED, ("a", "x", "z")), ("a", ))
        self.assertEqual(told(self, can_be_last, TWIN, FIXED, ("x", "z")), ("x", "z"))

    def test_by_trying(self):
        for web, ranges in small_cases(33, 15):
            times = all_times(web, ranges)
            for events in subsets(web[0])[1:]:
                lasts = [[event for event in events if row[event] == max(row[one] for one in events)] for row in times]
                some = tuple([event for event in events if any(event in last for last in lasts)])
                each = tuple([event for event in events if all(event in last for last in lasts)])
                self.assertEqual(told(self, can_be_last, web, ranges, events), some)
                self.assertEqual(told(self, surely_last, web, ranges, events), each)
                for event in events if len(events) > 1 else ():
                    others = tuple([one for one in events if one != event])
                    self.assertEqual(greatest_spread(web, event, web, others, ranges) >= 0, event in some)


class Rows(unittest.TestCase):
    def test_told(self):
        self.assertIs(told(self, is_sure_row, WEB, RANGES, ("pilot", "dock", "sail")), True)
        self.assertIs(told(self, is_sure_row, WEB, RANGES, ("dock", "cargo")), False)
        self.assertIs(told(self, is_sure_row, WEB, RANGES, ("pilot", "dock", "cargo")), False)
        self.assertIs(told(self, is_sure_row, WEB, RANGES, ("cargo", "dock", "sail")), False)
        self.assertIs(told(self, is_sure_row, WEB, RANGES, ()), True)
        self.assertIs(told(self, is_sure_row, WEB, RANGES, ("cargo",)), True)
        self.assertIs(told(self, is_sure_row, WEB, RANGES, ("dock", "dock", "sail", "sail")), True)
        self.assertIs(told(self, is_sure_row, TWIN, FIXED, ("z", "b", "a", "b")), True)
        self.assertIs(told(self, is_sure_row, TWIN, FIXED, ("b", "z")), False)

    def test_by_trying(self):
        for web, ranges in small_cases(34, 20):
            ahead = order_pairs(web, ranges)
            for row in (web[0], web[0][::-1], web[0][1:3], tuple([pair[0] for pair in ahead])):
                wanted = all(one == other or (one, other) in ahead for one, other in zip(row, row[1:]))
                self.assertIs(told(self, is_sure_row, web, ranges, row), wanted)


class Papers(unittest.TestCase):
    def test_told(self):
        self.assertEqual(told(self, order_paper, WEB, RANGES, "cargo", "sail"), ("c",))
        self.assertIsNone(told(self, order_paper, WEB, RANGES, "dock", "sail"))
        self.assertIsNone(told(self, order_paper, WEB, RANGES, "dock", "dock"))
        judged(self, is_order_paper, (WEB, RANGES, "sail", "cargo"), [("g", "f", "h"), ("k",)], [
            ("c",), (), ("h",), ("g", "f"), ("z",),
        ])
        judged(self, is_order_paper, (WEB, RANGES, "dock", "sail"), [], [("g",), ()])
        judged(self, is_order_paper, (TWIN, FIXED, "a", "b"), [], [("u", "s"), ("s",), ()])
        judged(self, is_order_paper, (WEB, RANGES, "pilot", "sail"), [], [()])

    def test_by_trying(self):
        for web, ranges in small_cases(35, 30):
            times = all_times(web, ranges)
            for one in web[0]:
                for other in web[0]:
                    papers = []
                    for way in ways_in(web, one):
                        run = slow(ranges, way)
                        good = length_in(run, way) > time_in(web, run, other)
                        self.assertIs(told(self, is_order_paper, web, ranges, one, other, way), good)
                        papers.extend([way] if good else [])
                    self.assertEqual(not papers, ahead_in(times, one, other))
                    paper = told(self, order_paper, web, ranges, one, other)
                    self.assertIn(paper, papers or [None])


class Errors(unittest.TestCase):
    def test_pairs(self):
        rows = [(surely_ahead, ()), (order_paper, ())]
        rows += [(is_order_paper, (thing,)) for thing in ((), None, ["odd"], ("b",), 3)]
        for function, args in rows:
            for one, other in (("p", "q"), ("z", "q"), ("p", "z")):
                refused(self, NoRange, {"name": "b"}, function, LACK, (("a", 0, 1), ("d", 0, 1)), one, other, *args)
                refused(self, NoRange, {"name": "d"}, function, LACK, (("b", 0, 1),), one, other, *args)
            refused(self, NoEvent, {"event": "tide"}, function, WEB, RANGES, "tide", "sail", *args)
            refused(self, NoEvent, {"event": "tide"}, function, WEB, RANGES, "sail", "tide", *args)
            refused(self, NoEvent, {"event": "wind"}, function, WEB, RANGES, "wind", "tide", *args)
            refused(self, NoEvent, {"event": "a"}, function, EMPTY, (), "a", "a", *args)

    def test_webs(self):
        for function in (order_pairs, open_pairs, classes, steps):
            refused(self, NoRange, {"name": "b"}, function, LACK, ())
            refused(self, NoRange, {"name": "d"}, function, LACK, (("b", 0, 1), ("c", 0, 1)))

    def test_events(self):
        for function in (can_be_last, surely_last, is_sure_row):
            for events in (("p",), ("z",), ("p", "z")):
                refused(self, NoRange, {"name": "b"}, function, LACK, (("d", 0, 1),), events)
            refused(self, NoEvent, {"event": "tide"}, function, WEB, RANGES, ("tide",))
            refused(self, NoEvent, {"event": "tide"}, function, WEB, RANGES, ("cargo", "tide", "wind"))
            refused(self, NoEvent, {"event": "a"}, function, WEB, RANGES, ("a", "tide"))
        refused(self, NoEvent, {"event": "wind"}, is_sure_row, WEB, RANGES, ("sail", "pilot", "wind", "tide"))
        refused(self, NoRange, {"name": "b"}, is_sure_row, LACK, (), ())


if __name__ == "__main__":
    unittest.main()

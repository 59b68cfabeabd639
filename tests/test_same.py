"""Point 8: two plans side by side."""

import unittest

from slowship.errors import NoEvent, NoRange
from slowship.same import (
    alike_at, alike_events, are_alike, is_later_way, is_unlike_paper, later_span, later_way, least_unlike, never_later,
    shared_arcs, unlike_paper,
)
from slowship.webs import renamed_arcs
from tests.support import all_runs, end_runs, judged, refused, small_pairs, time_in, told, way_spread, ways_in
from tests.test_webs import EMPTY

RANGES = (("crane", 1, 3), ("pilot", 0, 2), ("sail", 5, 9), ("tide", 4, 6))
PLAN = (("dock", "go", "sea"), (("crane", "dock", "go"), ("sail", "sea", "dock"), ("tide", "sea", "go")))
BARE = (("dock", "go", "sea"), (("crane", "dock", "go"), ("sail", "sea", "dock")))
SLOW = (("dock", "go", "sea"), (("crane", "dock", "go"), ("sail", "sea", "dock"), ("tide", "dock", "go")))
GREAT = 10 ** 60
ONE_ARC = (("a", "b"), (("x", "a", "b"),))
LONE = (("a", "b"), (("y", "a", "b"),))
HUGE = (("x", 2 ** 70, GREAT), ("y", 5, 5 * GREAT))
LACK_ONE = (("a", "b", "c"), (("d", "a", "b"), ("k", "a", "b")))
LACK_OTHER = (("b", "c", "e"), (("b", "b", "c"), ("p", "b", "c")))


def both(one, other):
    return [event for event in one[0] if event in other[0]]


def laters(one, other, ranges, event):
    """In each RUN, by how much the EVENT is later in one."""
    return [time_in(one, run, event) - time_in(other, run, event) for run in all_runs(ranges)]


class Later(unittest.TestCase):
    def test_told(self):
        self.assertEqual(told(self, later_span, SLOW, PLAN, RANGES, "go"), (1, 5))
        self.assertEqual(told(self, later_span, PLAN, SLOW, RANGES, "go"), (-5, -1))
        self.assertEqual(told(self, later_span, SLOW, PLAN, RANGES, "dock"), (0, 0))
        self.assertEqual(told(self, later_span, ONE_ARC, LONE, HUGE, "b"), (2 ** 70 - 5 * GREAT, GREAT - 5))
        self.assertIs(told(self, never_later, PLAN, SLOW, RANGES, "go"), True)
        self.assertIs(told(self, never_later, SLOW, PLAN, RANGES, "go"), False)
        self.assertIs(told(self, alike_at, PLAN, BARE, RANGES, "go"), True)
        self.assertIs(told(self, alike_at, SLOW, BARE, RANGES, "go"), False)
        self.assertIs(told(self, alike_at, BARE, SLOW, RANGES, "go"), False)
        self.assertIsNone(told(self, later_way, PLAN, SLOW, RANGES, "go"))
        self.assertEqual(told(self, later_way, SLOW, PLAN, RANGES, "go"), ("sail", "tide"))

    def test_is_later_way(self):
        judged(self, is_later_way, (SLOW, PLAN, RANGES, "go"), [("sail", "tide")], [
            ("sail", "crane"), ("tide",), ("sail",), (), ("crane",), ("z",),
        ])
        judged(self, is_later_way, (PLAN, SLOW, RANGES, "go"), [], [("tide",), ("sail", "crane")])
        judged(self, is_later_way, (PLAN, SLOW, RANGES, "sea"), [], [()])
        judged(self, is_later_way, (ONE_ARC, LONE, HUGE, "b"), [("x",)], [("y",)])

    def test_by_trying(self):
        for one, other, ranges in small_pairs(41, 60):
            for event in both(one, other):
                found = laters(one, other, ranges, event)
                args = (one, other, ranges, event)
                self.assertEqual(told(self, later_span, *args), (min(found), max(found)))
                self.assertIs(told(self, never_later, *args), max(found) <= 0)
                self.assertIs(told(self, alike_at, *args), min(found) == max(found) == 0)
                ways = [way for way in ways_in(one, event) if way_spread(one, event, other, (event,), ranges, way) > 0]
                way = told(self, later_way, *args)
                self.assertIn(way, ways or [None])
                self.assertEqual(way is None, max(found) <= 0)
                for thing in [*ways_in(one, event), *ways_in(other, event)]:
                    self.assertIs(told(self, is_later_way, *args, thing), thing in ways)

    def test_guarantees(self):
        for one, other, ranges in small_pairs(42, 60):
            fewer = one[0], tuple([arc for arc in one[1] if arc[0] in shared_arcs(one, other)])
            for event in both(one, other):
                self.assertTrue(never_later(fewer, one, ranges, event))
                self.assertTrue(never_later(fewer, other, ranges, event))
            # With names of their own, and RANGES as theirs, nothing is alike that was not.
            pairs = tuple([(arc[0], arc[0] + "n") for arc in one[1]])
            known = {row[0]: row for row in ranges}
            wide = tuple(sorted([*ranges, *[(new, *known[name][1:]) for name, new in pairs]]))
            alike = alike_events(renamed_arcs(one, pairs), other, wide)
            self.assertTrue(set(alike) <= set(alike_events(one, other, ranges)))
            for run in end_runs(ranges)[::9]:
                for event in alike_events(one, other, ranges):
                    self.assertEqual(time_in(one, run, event), time_in(other, run, event))


class Alike(unittest.TestCase):
    def test_told(self):
        self.assertEqual(told(self, alike_events, SLOW, PLAN, RANGES), ("dock", "sea"))
        self.assertEqual(told(self, alike_events, BARE, PLAN, RANGES), ("dock", "go", "sea"))
        self.assertEqual(told(self, least_unlike, SLOW, PLAN, RANGES), "go")
        self.assertIsNone(told(self, least_unlike, BARE, PLAN, RANGES))
        self.assertIs(told(self, are_alike, PLAN, BARE, RANGES), True)
        self.assertIs(told(self, are_alike, PLAN, SLOW, RANGES), False)
        self.assertIs(told(self, are_alike, PLAN, (("dock",), ()), RANGES), False)

    def test_edges(self):
        self.assertEqual(told(self, alike_events, EMPTY, PLAN, RANGES), ())
        self.assertEqual(told(self, alike_events, PLAN, (("a", "go", "z"), (("x", "a", "z"),)), (*RANGES, ("x", 0, 0))), ())
        self.assertIsNone(told(self, least_unlike, EMPTY, PLAN, RANGES))
        self.assertIs(told(self, are_alike, EMPTY, EMPTY, ()), True)
        self.assertIs(told(self, are_alike, (("a", "b"), ()), (("a",), ()), ()), False)
        self.assertIs(told(self, are_alike, (("a",), ()), (("a", "b"), ()), ()), False)
        self.assertIsNone(told(self, least_unlike, (("a", "b"), ()), (("a",), ()), ()))
        self.assertIs(told(self, are_alike, (("a", "b"), ()), ONE_ARC, (("x", 0, 0),)), True)
        self.assertIs(told(self, are_alike, (("a", "b"), ()), ONE_ARC, (("x", 0, 1),)), False)
        self.assertIs(told(self, are_alike, LONE, ONE_ARC, (("x", 4, 4), ("y", 4, 4))), True)
        self.assertIs(told(self, are_alike, LONE, ONE_ARC, (("x", 4, 5), ("y", 4, 5))), False)

    def test_by_trying(self):
        for one, other, ranges in small_pairs(43, 60):
            alike = [event for event in both(one, other) if set(laters(one, other, ranges, event)) == {0}]
            self.assertEqual(told(self, alike_events, one, other, ranges), tuple(alike))
            unlike = [event for event in both(one, other) if event not in alike]
            self.assertEqual(told(self, least_unlike, one, other, ranges), min(unlike, default=None))
            self.assertIs(told(self, are_alike, one, other, ranges), not unlike and one[0] == other[0])
            shorter = one[0][1:], tuple([arc for arc in one[1] if one[0][0] not in arc])
            self.assertIs(told(self, are_alike, shorter, one, ranges), False)
            alike = [event for event in shorter[0] if set(laters(shorter, other, ranges, event)) == {0}]
            self.assertEqual(told(self, alike_events, shorter, other, ranges), tuple(alike))
            self.assertEqual(told(self, alike_events, other, shorter, ranges), tuple(alike))

    def test_shared_arcs(self):
        self.assertEqual(told(self, shared_arcs, PLAN, SLOW), ("crane", "sail"))
        self.assertEqual(told(self, shared_arcs, PLAN, BARE), ("crane", "sail"))
        self.assertEqual(told(self, shared_arcs, PLAN, PLAN), ("crane", "sail", "tide"))
        self.assertEqual(told(self, shared_arcs, PLAN, EMPTY), ())
        self.assertEqual(told(self, shared_arcs, EMPTY, PLAN), ())
        turned = (("dock", "go", "sea"), (("crane", "go", "dock"), ("sail", "sea", "go"), ("tide", "dock", "go")))
        self.assertEqual(told(self, shared_arcs, PLAN, turned), ())
        self.assertEqual(told(self, shared_arcs, turned, SLOW), ("tide",))


class Papers(unittest.TestCase):
    def test_told(self):
        self.assertEqual(told(self, unlike_paper, PLAN, SLOW, RANGES, "go"), (1, ("sail", "tide")))
        self.assertEqual(told(self, unlike_paper, SLOW, PLAN, RANGES, "go"), (0, ("sail", "tide")))
        self.assertIsNone(told(self, unlike_paper, PLAN, BARE, RANGES, "go"))
        judged(self, is_unlike_paper, (PLAN, SLOW, RANGES, "go"), [(1, ("sail", "tide"))], [
            (0, ("sail", "tide")), (2, ("sail", "tide")), (-1, ("sail", "tide")), (1, ("sail", "crane")), (1, ("tide",)), (1,),
            (1, ("sail", "tide"), 1), ("sail", "tide"), (1, ()), (("sail", "tide"), 1), (3 - 2 ** 64, ("sail", "tide")),
        ])
        judged(self, is_unlike_paper, (SLOW, PLAN, RANGES, "go"), [(0, ("sail", "tide"))], [(1, ("sail", "tide"))])
        judged(self, is_unlike_paper, (PLAN, BARE, RANGES, "go"), [], [(0, ("tide",)), (1, ("sail", "crane"))])
        judged(self, is_unlike_paper, (ONE_ARC, LONE, HUGE, "b"), [(0, ("x",)), (1, ("y",))], [(0, ("y",)), (1, ("x",))])

    def test_by_trying(self):
        for one, other, ranges in small_pairs(44, 50):
            for event in both(one, other):
                papers = [(0, way) for way in ways_in(one, event) if way_spread(one, event, other, (event,), ranges, way) > 0]
                papers += [(1, way) for way in ways_in(other, event)
                           if way_spread(other, event, one, (event,), ranges, way) > 0]
                args = (one, other, ranges, event)
                self.assertIn(told(self, unlike_paper, *args), papers or [None])
                self.assertEqual(not papers, set(laters(*args)) == {0})
                for way in [*ways_in(one, event), *ways_in(other, event)]:
                    for which in (0, 1):
                        self.assertIs(told(self, is_unlike_paper, *args, (which, way)), (which, way) in papers)


class Errors(unittest.TestCase):
    def test_with_event(self):
        rows = [(function, ()) for function in (never_later, later_span, later_way, alike_at, unlike_paper)]
        for function in (is_later_way, is_unlike_paper):
            rows += [(function, (thing,)) for thing in ((), None, ["odd"], (0, ("d",)), (1, ("b",)), (2, 3), "x", True)]
        for function, args in rows:
            self.check_no_range(function, args)
            full = tuple([(name, 0, 1) for name in "bdkp"])
            refused(self, NoEvent, {"event": "z"}, function, LACK_ONE, LACK_OTHER, full, "z", *args)
            refused(self, NoEvent, {"event": "a"}, function, LACK_ONE, LACK_OTHER, full, "a", *args)
            refused(self, NoEvent, {"event": "e"}, function, LACK_ONE, LACK_OTHER, full, "e", *args)

    def check_no_range(self, function, args):
        for names, lack in (("", "d"), ("bp", "d"), ("bd", "k"), ("dk", "b"), ("bdk", "p"), ("bkp", "d"), ("ak", "d")):
            ranges = tuple([(name, 0, 1) for name in names])
            for event in ("b", "z", "a", "e"):
                refused(self, NoRange, {"name": lack}, function, LACK_ONE, LACK_OTHER, ranges, event, *args)

    def test_with_webs(self):
        for function in (alike_events, least_unlike, are_alike):
            for names, lack in (("", "d"), ("bp", "d"), ("bd", "k"), ("dk", "b"), ("bdk", "p")):
                ranges = tuple([(name, 0, 1) for name in names])
                refused(self, NoRange, {"name": lack}, function, LACK_ONE, LACK_OTHER, ranges)
            refused(self, NoRange, {"name": "d"}, function, LACK_ONE, EMPTY, ())
            refused(self, NoRange, {"name": "b"}, function, EMPTY, LACK_OTHER, ())


if __name__ == "__main__":
    unittest.main()

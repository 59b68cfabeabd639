"""Point 17: air, and plans of told times."""

import itertools
import random
import unittest

from slowship.air import (
    air, always_tight, behind_plan, greatest_air, greatest_kept, is_loose_paper, is_tight_paper, least_air, loose_paper,
    moved_plan, must_move, never_tight, plan_times, safe_hours, tight_paper,
)
from slowship.errors import NoEvent, NoPaper, NoRange, Unfit
from tests.support import all_runs, judged, outcome, refused, slow, small_cases, subsets, time_in, told, ways_in
from tests.test_delays import DOCK, GREAT, HOURS, RANGES, RUN, WEB, late_in
from tests.test_webs import EMPTY

PLAN = (("a", 0), ("b", 3), ("c", 5))
GOOD = (("a", 0), ("b", 3), ("c", 6))
FORK = (("a", "b", "c", "d"), (("p", "a", "b"), ("q", "a", "c"), ("r", "b", "d"), ("s", "c", "d")))
WIDE = (("p", 1, 4), ("q", 2, 2), ("r", 0, 3), ("s", 1, 1))


def longest(web, run, one, other):
    """The greatest sum of lengths from one to other; None if no ARCS lead there."""
    if one == other:
        return 0
    lengths = dict(run)
    sums = [(longest(web, run, one, ahead), lengths[name]) for name, ahead, behind in web[1] if behind == other]
    return max([most + length for most, length in sums if most is not None], default=None)


def air_in(web, run, one, other):
    most = longest(web, run, one, other)
    return None if most is None else time_in(web, run, other) - time_in(web, run, one) - most


def passes(web, way, one, other):
    """Whether a WAY to other is over one."""
    ends = {arc[0]: arc for arc in web[1]}
    return one == other or one in [ends[name][1] for name in way]


def planned(web, run, plan, lates, event):
    """When an EVENT happens in the RUN with PLAN and LATES."""
    lengths = dict(run)
    arcs = [(name, ahead) for name, ahead, behind in web[1] if behind == event]
    found = max([planned(web, run, plan, lates, ahead) + lengths[name] for name, ahead in arcs], default=0)
    return max([found, *[number for other, number in plan if other == event]]) + dict(lates).get(event, 0)


def behind_in(web, runs, plan, lates):
    """The EVENTS that are behind in some of the RUNS."""
    return tuple([event for event, number in plan if event not in dict(lates)
                  and any(planned(web, run, plan, lates, event) > number for run in runs)])


def cases(seed, many):
    """WEBS and RANGES of few names, so that all RUNS are soon tried."""
    return small_cases(seed, many, "pqrs", "abcd")


def plan_cases(seed, many):
    """WEBS and RANGES with a PLAN that can mostly be kept, and LATES."""
    chance = random.Random(seed)
    for web, ranges in cases(seed, many):
        high = tuple([(name, top) for name, _, top in ranges])
        plan = tuple([(event, max(-2, time_in(web, high, event) + chance.randint(-2, 2)))
                      for event in sorted(chance.sample(web[0], chance.randint(0, 4)))])
        lates = tuple([(event, chance.choice((0, 1, 3))) for event in sorted(chance.sample(web[0], chance.randint(0, 2)))])
        yield web, ranges, plan, lates


class Airs(unittest.TestCase):
    def test_told(self):
        self.assertEqual(told(self, air, WEB, RUN, "b", "c"), 3)
        self.assertEqual(told(self, least_air, WEB, RANGES, "b", "c"), 0)
        self.assertEqual(told(self, greatest_air, WEB, RANGES, "b", "c"), 3)
        self.assertIsNone(told(self, air, WEB, RUN, "c", "b"))
        self.assertEqual(told(self, always_tight, WEB, RANGES), (("a", "b"), ("a", "c")))
        self.assertEqual(told(self, never_tight, DOCK, HOURS), (("a", "c"), ("b", "c")))
        self.assertEqual(told(self, safe_hours, DOCK, HOURS, "a", ("c",)), 1)

    def test_edges(self):
        # No ARCS lead there; one and other the same EVENT, behind ARCS or not.
        for one, other in (("c", "a"), ("b", "a"), ("c", "b")):
            self.assertIsNone(told(self, least_air, WEB, RANGES, one, other))
            self.assertIsNone(told(self, greatest_air, WEB, RANGES, one, other))
        self.assertIsNone(told(self, least_air, DOCK, HOURS, "o", "a"))
        for event in WEB[0]:
            for function, rows in ((air, RUN), (least_air, RANGES), (greatest_air, RANGES)):
                self.assertEqual(told(self, function, WEB, rows, event, event), 0)
        self.assertEqual(told(self, air, WEB, (("m", 5), *RUN), "a", "c"), 0)
        self.assertEqual(told(self, always_tight, EMPTY, ()), ())
        self.assertEqual(told(self, never_tight, EMPTY, ()), ())
        self.assertEqual(told(self, always_tight, (("a", "b"), ()), ()), ())
        self.assertEqual(told(self, never_tight, (("a", "b"), ()), ()), ())

    def test_great_numbers(self):
        wide = (("p", 1, GREAT), ("q", 2, 2), ("r", 0, 2 * GREAT))
        self.assertEqual(told(self, greatest_air, WEB, wide, "b", "c"), 2 * GREAT - 3)
        self.assertEqual(told(self, least_air, WEB, wide, "b", "c"), 0)
        self.assertEqual(told(self, tight_paper, WEB, wide, "b", "c", GREAT), ("p", "q"))
        self.assertEqual(told(self, loose_paper, WEB, wide, "b", "c", 2 * GREAT - 3), ("r",))
        refused(self, NoPaper, {}, loose_paper, WEB, wide, "b", "c", 2 * GREAT - 2)
        late = (("p", 1, 1), ("q", 2, 2), ("r", 2 ** 70, 2 ** 71))
        self.assertEqual(told(self, safe_hours, WEB, late, "b", ("a", "c")), 2 ** 70 - 3)

    def test_by_trying(self):
        for web, ranges in cases(801, 40):
            runs = all_runs(ranges)
            tight, loose = [], []
            for one, other in itertools.product(web[0], repeat=2):
                airs = [air_in(web, run, one, other) for run in runs]
                least, most = (None, None) if airs[0] is None else (min(airs), max(airs))
                self.assertEqual(told(self, least_air, web, ranges, one, other), least)
                self.assertEqual(told(self, greatest_air, web, ranges, one, other), most)
                for run in runs[::20]:
                    self.assertEqual(told(self, air, web, run, one, other), air_in(web, run, one, other))
                if least is None or one == other:
                    continue
                self.assertEqual(sorted(set(airs)), list(range(least, most + 1)))
                tight.extend([(one, other)] if most == 0 else [])
                loose.extend([(one, other)] if least > 0 else [])
            self.assertEqual(told(self, always_tight, web, ranges), tuple(sorted(tight)))
            self.assertEqual(told(self, never_tight, web, ranges), tuple(sorted(loose)))

    def test_lateness_is_handed_on(self):
        for web, ranges in cases(802, 20):
            for run in all_runs(ranges)[::15]:
                for one, other in itertools.product(web[0], repeat=2):
                    found = air(web, run, one, other)
                    for late in range(5):
                        expected = 0 if found is None else max(0, late - found)
                        self.assertEqual(late_in(web, run, ((one, late),), other), expected)


class Papers(unittest.TestCase):
    def test_told(self):
        self.assertEqual(told(self, tight_paper, WEB, RANGES, "b", "c", 0), ("p", "q"))
        self.assertEqual(told(self, loose_paper, WEB, RANGES, "b", "c", 3), ("r",))
        refused(self, NoPaper, {}, tight_paper, WEB, RANGES, "b", "c", -1)
        refused(self, NoPaper, {}, loose_paper, WEB, RANGES, "b", "c", 4)
        for function in (tight_paper, loose_paper):
            for number in (-GREAT, 0, GREAT):
                refused(self, NoPaper, {}, function, WEB, RANGES, "c", "a", number)
        self.assertEqual(told(self, tight_paper, WEB, RANGES, "a", "a", 0), ())
        self.assertEqual(told(self, loose_paper, WEB, RANGES, "a", "a", 0), ())
        refused(self, NoPaper, {}, tight_paper, WEB, RANGES, "a", "a", -1)
        refused(self, NoPaper, {}, loose_paper, WEB, RANGES, "a", "a", 1)
        self.assertIn(told(self, loose_paper, WEB, RANGES, "c", "c", -GREAT), (("p", "q"), ("r",)))
        self.assertIn(told(self, tight_paper, WEB, RANGES, "a", "c", GREAT), (("p", "q"), ("r",)))

    def test_by_trying(self):
        counts = [0, 0]
        for web, ranges in cases(803, 40):
            for one, other in itertools.product(web[0], repeat=2):
                airs = {way: air_in(web, slow(ranges, way), one, other) for way in ways_in(web, other)}
                numbers = [-1, 0, 1] if None in airs.values() else range(min(airs.values()) - 1, max(airs.values()) + 2)
                for number in numbers:
                    over = [way for way in airs if passes(web, way, one, other) and airs[way] is not None]
                    low = [way for way in over if airs[way] <= number]
                    high = [way for way in airs if airs[way] is not None and airs[way] >= number]
                    for function, judge, good in ((tight_paper, is_tight_paper, low), (loose_paper, is_loose_paper, high)):
                        args = (web, ranges, one, other, number)
                        found = outcome(function, args, {})
                        self.assertTrue(found[1] in good if good else found[1:] == (NoPaper, {}))
                        self.assertEqual(found, outcome(function, args, {}))
                        for way in airs:
                            self.assertIs(judge(*args, way), way in good)
                        counts[bool(good)] += 1
        self.assertGreater(min(counts), 100)

    def test_asked_in_all_ways(self):
        for web, ranges in cases(804, 6):
            for one, other in itertools.product(web[0], repeat=2):
                least, most = least_air(web, ranges, one, other), greatest_air(web, ranges, one, other)
                if least is not None:
                    self.assertIn(told(self, tight_paper, web, ranges, one, other, least), ways_in(web, other))
                    self.assertIn(told(self, loose_paper, web, ranges, one, other, most), ways_in(web, other))
                    refused(self, NoPaper, {}, tight_paper, web, ranges, one, other, least - 1)
                    refused(self, NoPaper, {}, loose_paper, web, ranges, one, other, most + 1)

    def test_judged(self):
        bad = [(), ("p",), ("q",), ("q", "p"), ("p", "q", "r"), ("b",), ("p", "q", "q"), ("zz",)]
        judged(self, is_tight_paper, (WEB, RANGES, "b", "c", 0), [("p", "q")], [("r",), *bad])
        judged(self, is_tight_paper, (WEB, RANGES, "b", "c", 9), [("p", "q")], [("r",), *bad])
        judged(self, is_tight_paper, (WEB, RANGES, "b", "c", -1), [], [("p", "q"), ("r",), *bad])
        judged(self, is_tight_paper, (WEB, RANGES, "a", "c", 0), [("p", "q"), ("r",)], bad)
        judged(self, is_tight_paper, (WEB, RANGES, "c", "a", 9), [], [("p", "q"), ("r",), *bad])
        judged(self, is_tight_paper, (WEB, RANGES, "a", "a", 0), [()], [("p", "q"), ("r",), *bad[1:]])
        judged(self, is_loose_paper, (WEB, RANGES, "b", "c", 3), [("r",)], [("p", "q"), *bad])
        judged(self, is_loose_paper, (WEB, RANGES, "b", "c", 0), [("p", "q"), ("r",)], bad)
        judged(self, is_loose_paper, (WEB, RANGES, "b", "c", 4), [], [("p", "q"), ("r",), *bad])
        judged(self, is_loose_paper, (WEB, RANGES, "c", "a", -9), [], [("p", "q"), ("r",), *bad])
        judged(self, is_loose_paper, (WEB, RANGES, "b", "b", 0), [("p",)], [("p", "q"), ("r",), ()])


class SafeHours(unittest.TestCase):
    def test_edges(self):
        self.assertIsNone(told(self, safe_hours, WEB, RANGES, "b", ()))
        self.assertIsNone(told(self, safe_hours, WEB, RANGES, "c", ("a", "b")))
        self.assertEqual(told(self, safe_hours, WEB, RANGES, "c", ("a", "b", "c")), 0)
        self.assertEqual(told(self, safe_hours, FORK, WIDE, "c", ("b", "d")), 0)
        self.assertIsNone(told(self, safe_hours, FORK, WIDE, "c", ("a", "b")))

    def test_by_trying(self):
        counts = [0, 0, 0]
        for web, ranges in cases(805, 70):
            runs = all_runs(ranges)
            for one in web[0]:
                # What is late with much more than all lengths is handed on to all to which ARCS lead.
                safe = {}
                for other in web[0]:
                    safe[other] = max([late for late in range(40)
                                       if not any(late_in(web, run, ((one, late),), other) > 0 for run in runs)])
                for some in subsets(web[0]):
                    least = min([safe[other] for other in some], default=39)
                    expected = None if least == 39 else least
                    self.assertEqual(safe_hours(web, ranges, one, some), expected)
                    counts[0 if expected is None else 1 if expected == 0 else 2] += 1
                told(self, safe_hours, web, ranges, one, web[0][:2])
        self.assertGreater(min(counts), 20)


class Plans(unittest.TestCase):
    def test_told(self):
        self.assertEqual(told(self, plan_times, WEB, RUN, PLAN, ()), (("a", 0), ("b", 3), ("c", 6)))
        self.assertEqual(told(self, behind_plan, WEB, RANGES, PLAN, ()), ("c",))
        self.assertEqual(told(self, moved_plan, WEB, RANGES, PLAN, (("a", 2),)), (("a", 0), ("b", 5), ("c", 8)))
        self.assertEqual(told(self, must_move, WEB, RANGES, PLAN, (("a", 2),)), ("b", "c"))
        self.assertEqual(told(self, moved_plan, WEB, RANGES, PLAN, ()), GOOD)
        self.assertEqual([told(self, greatest_kept, WEB, RANGES, GOOD, event) for event in "bac"], [1, 0, None])
        refused(self, Unfit, {}, greatest_kept, WEB, RANGES, PLAN, "a")

    def test_edges(self):
        self.assertEqual(told(self, plan_times, WEB, RUN, (), ()), (("a", 0), ("b", 1), ("c", 6)))
        self.assertEqual(told(self, plan_times, WEB, RUN, (), (("b", 2),)), (("a", 0), ("b", 3), ("c", 6)))
        self.assertEqual(told(self, plan_times, EMPTY, (), (), ()), ())
        for function in (behind_plan, moved_plan, must_move):
            self.assertEqual(told(self, function, WEB, RANGES, (), (("a", 9),)), ())
        self.assertIsNone(told(self, greatest_kept, WEB, RANGES, (), "a"))
        # Told below 0: behind, as nothing happens ahead of 0, if LATES do not tell of it.
        early = (("a", -3),)
        self.assertEqual(told(self, plan_times, WEB, RUN, early, ())[0], ("a", 0))
        self.assertEqual(told(self, behind_plan, WEB, RANGES, early, ()), ("a",))
        self.assertEqual(told(self, moved_plan, WEB, RANGES, early, ()), (("a", 0),))
        self.assertEqual(told(self, behind_plan, WEB, RANGES, early, (("a", 0),)), ())
        self.assertEqual(told(self, moved_plan, WEB, RANGES, early, (("a", 7),)), early)
        refused(self, Unfit, {}, greatest_kept, WEB, RANGES, early, "a")
        # LATES are behind the told time, and what is behind is told of by no LATES.
        self.assertEqual(told(self, plan_times, WEB, RUN, (("b", 4),), (("b", 2),)), (("a", 0), ("b", 6), ("c", 8)))
        self.assertEqual(told(self, behind_plan, WEB, RANGES, (("b", 4), ("c", 7)), (("b", 2),)), ("c",))
        # An EVENT is told itself: how late it is alone is no matter; nothing told behind it.
        self.assertIsNone(told(self, greatest_kept, WEB, RANGES, (("b", 3),), "b"))
        self.assertIsNone(told(self, greatest_kept, WEB, RANGES, (("b", 3),), "c"))
        self.assertEqual(told(self, greatest_kept, WEB, RANGES, (("b", 3), ("c", GREAT)), "b"), GREAT - 5)
        self.assertEqual(told(self, greatest_kept, WEB, RANGES, (("b", 50), ("c", 60)), "b"), 8)

    def test_by_trying(self):
        moved_some = kept_some = 0
        for web, ranges, plan, lates in plan_cases(806, 130):
            runs = all_runs(ranges)
            for run in runs[::30]:
                times = tuple([(event, planned(web, run, plan, lates, event)) for event in web[0]])
                self.assertEqual(told(self, plan_times, web, run, plan, lates), times)
            self.assertEqual(told(self, behind_plan, web, ranges, plan, lates), behind_in(web, runs, plan, lates))
            moved = told(self, moved_plan, web, ranges, plan, lates)
            self.assertEqual([event for event, _ in moved], [event for event, _ in plan])
            self.assertEqual(behind_in(web, runs, moved, lates), ())
            later = [event for (event, number), (_, other) in zip(plan, moved) if other > number]
            self.assertEqual(told(self, must_move, web, ranges, plan, lates), tuple(later))
            moved_some += bool(later)
            self.assertTrue(all(other >= number for (_, number), (_, other) in zip(plan, moved)))
            if len(runs) <= 81:
                self.check_least(web, [runs[0], runs[-1]], plan, lates, moved)
            kept_some += self.check_kept(web, ranges, plan)
        self.assertGreater(moved_some, 20)
        self.assertGreater(kept_some, 20)

    def check_least(self, web, runs, plan, lates, moved):
        """No PLAN with a number less somewhere is kept."""
        spans = [range(number, other + 2) for (_, number), (_, other) in zip(plan, moved)]
        for numbers in itertools.islice(itertools.product(*spans), 200):
            other = tuple([(event, number) for (event, _), number in zip(plan, numbers)])
            if behind_in(web, runs, other, lates) == ():
                self.assertTrue(all(number >= least for number, (_, least) in zip(numbers, moved)))

    def check_kept(self, web, ranges, plan):
        runs = all_runs(ranges)
        found = 0
        for one in web[0]:
            if behind_in(web, runs, plan, ()):
                refused(self, Unfit, {}, greatest_kept, web, ranges, plan, one)
                continue
            most = told(self, greatest_kept, web, ranges, plan, one)
            for late in range(12):
                kept = behind_in(web, runs[-1:], plan, ((one, late),)) == ()
                self.assertIs(kept, most is None or late <= most)
            found += most is not None
        return found

    def test_kept_in_all_runs(self):
        for web, ranges, plan, lates in plan_cases(807, 25):
            runs = all_runs(ranges)
            self.assertEqual(behind_in(web, runs, plan, lates), behind_in(web, runs[-1:], plan, lates))


class Wrong(unittest.TestCase):
    def test_no_range(self):
        lack, run = RANGES[:1] + RANGES[2:], RUN[:1] + RUN[2:]
        kept, plan = {"name": "q"}, (("no", 1),)
        refused(self, NoRange, kept, air, WEB, run, "none", "no")
        refused(self, NoRange, {"name": "p"}, air, WEB, (), "none", "no")
        for function in (least_air, greatest_air):
            refused(self, NoRange, kept, function, WEB, lack, "none", "no")
        for function in (tight_paper, loose_paper):
            refused(self, NoRange, kept, function, WEB, lack, "none", "no", GREAT)
        for function in (always_tight, never_tight):
            refused(self, NoRange, kept, function, WEB, lack)
        refused(self, NoRange, kept, safe_hours, WEB, lack, "none", ("no",))
        refused(self, NoRange, kept, plan_times, WEB, run, plan, plan)
        for function in (behind_plan, moved_plan, must_move):
            refused(self, NoRange, kept, function, WEB, lack, plan, plan)
        refused(self, NoRange, kept, greatest_kept, WEB, lack, plan, "none")
        for thing in (None, (), ("p", "q"), [[]]):
            for function in (is_tight_paper, is_loose_paper):
                refused(self, NoRange, kept, function, WEB, lack, "none", "no", 0, thing)

    def test_no_event(self):
        for one, other, kept in (("no", "none", "no"), ("a", "none", "none"), ("p", "a", "p"), ("no", "no", "no")):
            kept = {"event": kept}
            refused(self, NoEvent, kept, air, WEB, RUN, one, other)
            for function in (least_air, greatest_air):
                refused(self, NoEvent, kept, function, WEB, RANGES, one, other)
            for function in (tight_paper, loose_paper):
                refused(self, NoEvent, kept, function, WEB, RANGES, one, other, -GREAT)
            refused(self, NoEvent, kept, safe_hours, WEB, RANGES, one, ("a", other))
            refused(self, NoEvent, kept, plan_times, WEB, RUN, ((one, 1),), ((other, 1),))
            for function in (behind_plan, moved_plan, must_move):
                refused(self, NoEvent, kept, function, WEB, RANGES, ((one, 1),), ((other, 1),))
            # The EVENT one is asked for ahead of the PLAN, though it is handed in behind it.
            refused(self, NoEvent, kept, greatest_kept, WEB, RANGES, ((other, 1),), one)
            for thing in (None, (), ("p", "q"), [[]]):
                for function in (is_tight_paper, is_loose_paper):
                    refused(self, NoEvent, kept, function, WEB, RANGES, one, other, 0, thing)
        refused(self, NoEvent, {"event": "no"}, behind_plan, WEB, RANGES, (("a", 1), ("no", 1), ("nor", 1)), (("none", 1),))
        # Unfit comes behind NoEvent.
        refused(self, NoEvent, {"event": "no"}, greatest_kept, WEB, RANGES, (("a", -1), ("no", 1)), "c")
        refused(self, NoEvent, {"event": "none"}, greatest_kept, WEB, RANGES, PLAN, "none")


if __name__ == "__main__":
    unittest.main()

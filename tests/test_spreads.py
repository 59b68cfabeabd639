"""Point 6: spreads."""

import random
import unittest

from slowship.errors import NoEvent, NoRange
from slowship.spreads import (
    greatest_spread, is_late_way, is_spread_run, late_way, late_ways, least_spread, never_behind, spread, spread_run,
)
from slowship.times import slow_run
from slowship.webs import is_run, without_arc
from tests.support import (
    all_runs, end_runs, in_rows, judged, refused, small_cases, small_pairs, some_web, spread_in, told, way_spread,
    ways_in,
)
from tests.test_webs import EMPTY, RANGES, WEB

PLAN = without_arc(WEB, "k")
GREAT = 10 ** 60
# In one x and y are side by side, in other one behind another, the other way about, at other EVENTS.
ONE = (("a", "b", "v"), (("x", "a", "v"), ("y", "b", "v")))
OTHER = (("m", "n", "v", "w"), (("x", "n", "w"), ("y", "m", "n"), ("z", "m", "v")))
HUGE = (("x", 0, GREAT), ("y", 2 ** 66, 2 ** 66), ("z", 0, 7 * GREAT))
LACK_ONE = (("a", "b"), (("d", "a", "b"), ("k", "a", "b"), ("m", "a", "b")))
LACK_OTHER = (("a", "c"), (("b", "a", "c"), ("k", "a", "c"), ("p", "a", "c")))


def way_spreads(one, event, other, events, ranges):
    """The spread of each WAY in its slow RUN, by the WAY."""
    return {way: way_spread(one, event, other, events, ranges, way) for way in ways_in(one, event)}


def cases(seed, many):
    """One and other, maybe the same, RANGES, and an EVENT behind events."""
    chance = random.Random(seed)
    for one, other, ranges in small_pairs(seed, many):
        if chance.random() < 0.3:
            other = one
        event = chance.choice(one[0])
        events = tuple(sorted(chance.sample(other[0], chance.randint(1, 3))))
        yield one, event, other, events, ranges


class Spreads(unittest.TestCase):
    def test_told(self):
        run = slow_run(RANGES, ("k",))
        self.assertEqual(told(self, spread, WEB, "sail", PLAN, ("sail",), run), 6)
        self.assertEqual(told(self, spread, WEB, "crane", WEB, ("cargo", "dock"), run), 0)
        self.assertEqual(told(self, spread, WEB, "pilot", WEB, ("cargo", "dock"), run), -3)
        self.assertEqual(told(self, spread, WEB, "sail", WEB, ("crane", "sail"), run), 0)
        self.assertEqual(told(self, spread, ONE, "v", OTHER, ("v", "w"), (("x", 5), ("y", 6), ("z", 100))), -94)
        self.assertEqual(told(self, greatest_spread, WEB, "sail", WEB, ("crane",), RANGES), 6)
        self.assertEqual(told(self, least_spread, WEB, "sail", WEB, ("crane",), RANGES), 0)
        self.assertEqual(told(self, least_spread, WEB, "crane", WEB, ("cargo", "dock"), RANGES), -3)
        self.assertEqual(told(self, greatest_spread, PLAN, "sail", WEB, ("sail",), RANGES), 0)

    def test_edges(self):
        alone = (("a",), ())
        self.assertEqual(told(self, greatest_spread, alone, "a", alone, ("a",), ()), 0)
        self.assertEqual(told(self, least_spread, alone, "a", WEB, ("sail",), RANGES), -12)
        self.assertEqual(told(self, greatest_spread, alone, "a", WEB, ("sail",), RANGES), -4)
        self.assertEqual(told(self, late_way, alone, "a", alone, ("a",), (), -1), ())
        self.assertIsNone(told(self, late_way, alone, "a", alone, ("a",), (), 0))
        self.assertEqual(told(self, late_ways, WEB, "pilot", WEB, ("sail",), RANGES, -5), [()])
        self.assertEqual(told(self, late_ways, WEB, "pilot", WEB, ("sail",), RANGES, -4), [])
        self.assertEqual(told(self, spread_run, alone, "a", alone, ("a",), (), 0), ())
        self.assertEqual(told(self, spread_run, alone, "a", alone, ("a",), (("b", 2, 2),), 0), (("b", 2),))
        self.assertIs(told(self, is_late_way, alone, "a", alone, ("a",), (), -1, ()), True)
        for event in WEB[0]:
            self.assertEqual(greatest_spread(WEB, event, WEB, (event,), RANGES), 0)
            self.assertEqual(least_spread(WEB, event, WEB, (event,), RANGES), 0)

    def test_shared_names_elsewhere(self):
        self.assertEqual(told(self, greatest_spread, ONE, "v", OTHER, ("w",), HUGE), 0)
        self.assertEqual(told(self, least_spread, ONE, "v", OTHER, ("w",), HUGE), -(2 ** 66))
        self.assertEqual(told(self, least_spread, ONE, "v", OTHER, ("v", "w"), HUGE), 2 ** 66 - 7 * GREAT)
        self.assertEqual(told(self, greatest_spread, ONE, "v", OTHER, ("v",), HUGE), GREAT)
        self.assertEqual(told(self, greatest_spread, OTHER, "w", ONE, ("v",), HUGE), 2 ** 66)

    def test_by_trying(self):
        for one, event, other, events, ranges in cases(21, 60):
            found = [spread_in(one, event, other, events, run) for run in all_runs(ranges)]
            args = (one, event, other, events, ranges)
            self.assertEqual(told(self, greatest_spread, *args), max(found))
            self.assertEqual(told(self, least_spread, *args), min(found))
            self.assertEqual(max(way_spreads(*args).values()), max(found))
            for run in end_runs(ranges)[::5]:
                self.assertEqual(told(self, spread, *args[:4], run), spread_in(*args[:4], run))

    def test_wide_webs(self):
        for web, ranges in small_cases(22, 15, "klmnopqrst", "abcdefg"):
            for event in web[0][:3]:
                args = (web, event, web, web[0][3:5], ranges)
                self.assertEqual(greatest_spread(*args), max(way_spreads(*args).values()))

    def test_wide_pairs(self):
        # Great WEBS that share most of their ARCS: what is dropped on the way is never a greatest one.
        chance = random.Random(27)
        names = "klmnopqrst"
        for web, ranges in small_cases(28, 40, names, "abcdefg"):
            swapped = [(name, *pair) for name, pair in zip(names, [arc[1:] for arc in some_web(chance, names, web[0])[1]])]
            arcs = [arc if chance.random() < 0.7 else other for arc, other in zip(web[1], swapped)]
            other = web[0], tuple(arcs) if in_rows(arcs) else web[1][::2]
            for one, marks in ((web, other), (other, web)):
                event, events = chance.choice(web[0]), tuple(sorted(chance.sample(web[0], chance.randint(1, 3))))
                found = way_spreads(one, event, marks, events, ranges)
                most = max(found.values())
                self.assertEqual(greatest_spread(one, event, marks, events, ranges), most)
                for number in (most, most - 1, most - 3, 0):
                    late = sorted([way for way in found if found[way] > number])
                    self.assertEqual(late_ways(one, event, marks, events, ranges, number), late)
                    self.assertIs(never_behind(one, event, marks, events, ranges, number), late == [])

    def test_one_of_two_branches(self):
        # Behind v one branch delays m as it makes the WAY longer, the other one does not.
        web = (("g", "m", "s", "v", "wa", "wb"),
               (("a", "s", "g"), ("b", "s", "v"), ("c", "v", "wa"), ("d", "v", "wb"), ("e", "wa", "g"), ("f", "wb", "g"),
                ("h", "wa", "m"), ("k", "wb", "m")))
        ranges = (("a", 0, 5), ("b", 0, 0), ("c", 0, 9), ("d", 0, 0), ("e", 0, 0), ("f", 0, 10), ("h", 0, 0), ("k", 0, 0))
        self.assertEqual(greatest_spread(web, "g", web, ("m",), ranges), 10)
        self.assertEqual(late_ways(web, "g", web, ("m",), ranges, 5), [("b", "d", "f")])
        self.assertEqual(late_ways(web, "g", web, ("m",), ranges, -1), [("a",), ("b", "c", "e"), ("b", "d", "f")])
        self.assertIs(never_behind(web, "g", web, ("m",), ranges, 9), False)

    def test_very_many_ways(self):
        # 3 ** 13 WAYS: no listing would end.
        events = tuple("abcdefghijklmn")
        arcs = [(f"{sign}{more}", sign, after) for sign, after in zip(events, events[1:]) for more in "xyz"]
        web = events, tuple(arcs)
        ranges = tuple([(arc[0], 5 + "xyz".index(arc[0][1]), 9 - "xyz".index(arc[0][1])) for arc in arcs])
        self.assertEqual(greatest_spread(web, "n", web, ("n",), ranges), 0)
        self.assertEqual(greatest_spread(web, "n", web, ("k",), ranges), 27)
        self.assertEqual(least_spread(web, "n", web, ("k",), ranges), 21)
        self.assertEqual(greatest_spread(web, "n", web, ("a", "h"), ranges), 54)
        self.assertTrue(never_behind(web, "h", web, ("n",), ranges, -42))
        self.assertFalse(never_behind(web, "h", web, ("n",), ranges, -43))

    def test_greatest_web(self):
        events = tuple("abcdefghijkl")
        arcs = [(f"{sign}{more}", sign, after) for sign, after in zip(events[:5], events[1:6]) for more in "xyz"]
        web = events, tuple(sorted([*arcs, ("zz", "f", "g")]))
        ranges = tuple([(arc[0], 0, place * 10 ** 40) for place, arc in enumerate(web[1])])
        self.assertEqual(len(ways_in(web, "g")), 243)
        self.assertEqual(greatest_spread(web, "g", web, ("f",), ranges), 15 * 10 ** 40)
        self.assertTrue(never_behind(web, "g", web, ("g",), ranges, 0))
        self.assertEqual(len(late_ways(web, "g", web, ("g",), ranges, -1)), 243)


class Late(unittest.TestCase):
    def test_told(self):
        args = (WEB, "sail", WEB, ("crane",), RANGES)
        self.assertIs(told(self, never_behind, *args, 5), False)
        self.assertIs(told(self, never_behind, *args, 6), True)
        self.assertIs(told(self, never_behind, *args, GREAT), True)
        self.assertIs(told(self, never_behind, *args, -GREAT), False)
        self.assertEqual(told(self, late_way, *args, 5), ("k",))
        self.assertIsNone(told(self, late_way, *args, 6))
        self.assertEqual(told(self, late_ways, *args, 2), [("g", "f", "h"), ("k",)])
        self.assertEqual(told(self, late_ways, *args, 3), [("k",)])
        self.assertEqual(told(self, late_ways, *args, 6), [])
        self.assertEqual(told(self, late_ways, *args, -GREAT), [("g", "f", "h"), ("k",)])

    def test_by_trying(self):
        for one, event, other, events, ranges in cases(23, 40):
            args = (one, event, other, events, ranges)
            found = way_spreads(*args)
            most = max([spread_in(one, event, other, events, run) for run in all_runs(ranges)])
            for number in range(min(found.values()) - 2, most + 2):
                late = sorted([way for way in found if found[way] > number])
                self.assertEqual(told(self, late_ways, *args, number), late)
                self.assertIs(told(self, never_behind, *args, number), most <= number)
                way = told(self, late_way, *args, number)
                self.assertEqual(way is None, most <= number)
                self.assertTrue(way is None or way in late)
                for thing in found:
                    self.assertIs(told(self, is_late_way, *args, number, thing), thing in late)

    def test_is_late_way(self):
        args = (WEB, "sail", WEB, ("crane",), RANGES)
        judged(self, is_late_way, (*args, 2), [("k",), ("g", "f", "h")], [(), ("h",), ("f", "h"), ("c",), ("z",), ("g", "f")])
        judged(self, is_late_way, (*args, 3), [("k",)], [("g", "f", "h")])
        judged(self, is_late_way, (*args, 6), [], [("k",), ("g", "f", "h")])
        judged(self, is_late_way, (WEB, "pilot", WEB, ("pilot",), RANGES, -1), [()], [("k",)])

    def test_great_numbers(self):
        args = (ONE, "v", OTHER, ("v",), HUGE)
        self.assertEqual(told(self, late_ways, *args, 2 ** 66 - 1), [("x",), ("y",)])
        self.assertEqual(told(self, late_ways, *args, 2 ** 66), [("x",)])
        self.assertIs(told(self, never_behind, *args, GREAT - 1), False)
        self.assertIs(told(self, never_behind, *args, GREAT), True)


class SpreadRuns(unittest.TestCase):
    def check(self, args, number, there):
        run = told(self, spread_run, *args, number)
        self.assertEqual(run is not None, there)
        if there:
            self.assertTrue(is_run(args[4], run))
            self.assertEqual(spread_in(*args[:4], run), number)
            self.assertIs(told(self, is_spread_run, *args, number, run), True)
            self.assertIs(is_spread_run(*args, number - 1, run), False)

    def test_told(self):
        for number in range(-2, 9):
            self.check((WEB, "sail", PLAN, ("sail",), RANGES), number, 0 <= number <= 6)
            self.check((WEB, "crane", WEB, ("cargo", "dock"), RANGES), number, -3 <= number <= 5)

    def test_great_numbers(self):
        for number in (-GREAT, 2 ** 66 - 7 * GREAT, 2 ** 66 - 7 * GREAT - 1, -3 * GREAT + 12345, -1, 0, 1, GREAT, 2 ** 66):
            self.check((ONE, "v", OTHER, ("v", "w"), HUGE), number, 2 ** 66 - 7 * GREAT <= number <= 0)
            self.check((OTHER, "v", ONE, ("v",), HUGE), number, -GREAT <= number <= 7 * GREAT - 2 ** 66)

    def test_by_trying(self):
        for one, event, other, events, ranges in cases(24, 40):
            found = {spread_in(one, event, other, events, run) for run in all_runs(ranges)}
            for number in range(min(found) - 1, max(found) + 2):
                self.check((one, event, other, events, ranges), number, number in found)

    def test_is_spread_run(self):
        args = (WEB, "sail", PLAN, ("sail",), RANGES)
        runs = all_runs((("c", 3, 4), ("f", 2, 3), ("g", 1, 4), ("h", 0, 3), ("k", 7, 9)))
        good = [run for run in runs if spread_in(*args[:4], run) == 4]
        judged(self, is_spread_run, (*args, 4), good[:2], [
            slow_run(RANGES, ("k",)), good[0][:4], good[0][1:], (*good[0], ("z", 0)), (),
            (("c", 3), ("f", 2), ("g", 0), ("h", 0), ("k", 6)), (("c", 3), ("f", 2), ("g", 1), ("h", 0), ("k", 10)),
        ])
        judged(self, is_spread_run, ((("a",), ()), "a", (("a",), ()), ("a",), (), 0), [()])


class Errors(unittest.TestCase):
    def rows(self):
        yield greatest_spread, ()
        yield least_spread, ()
        for function in (never_behind, late_way, late_ways, spread_run):
            yield function, (3,)
        for function in (is_late_way, is_spread_run):
            for thing in ((), None, ["odd"], ("k",), True):
                yield function, (3, thing)

    def test_errors(self):
        for function, args in self.rows():
            self.check(function, args, lambda names: tuple([(name, 0, 1) for name in names]))
        self.check(spread, (), lambda names: tuple([(name, 1) for name in names]))

    def check(self, function, args, made):
        one, other = LACK_ONE, LACK_OTHER
        for names, lack in (("", "d"), ("bp", "d"), ("bdk", "m"), ("dkm", "b"), ("bdkm", "p"), ("dm", "k"), ("ab", "d")):
            for event, events in (("b", ("c",)), ("z", ("z",)), ("b", ("y", "z"))):
                refused(self, NoRange, {"name": lack}, function, one, event, other, events, made(names), *args)
        full = made("bdkmp")
        refused(self, NoEvent, {"event": "z"}, function, one, "z", other, ("y",), full, *args)
        refused(self, NoEvent, {"event": "c"}, function, one, "c", other, ("c",), full, *args)
        refused(self, NoEvent, {"event": "b"}, function, one, "b", other, ("b", "z"), full, *args)
        refused(self, NoEvent, {"event": "y"}, function, one, "b", other, ("a", "y", "z"), full, *args)
        refused(self, NoEvent, {"event": "a"}, function, EMPTY, "a", EMPTY, ("b",), (), *args)


if __name__ == "__main__":
    unittest.main()

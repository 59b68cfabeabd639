"""Point 18: daily lines."""

import itertools
import random
import unittest

from slowship.days import (
    air_of, is_bad_lap, is_daily, is_kept, lap_air, laps, late_days, least_period, most_behind, played, short_arcs,
    worst_lap,
)
from slowship.errors import NoArc, NoEvent, NoRange
from tests.support import all_runs, end_runs, judged, refused, told

LINE = (60, (("load", 30), ("tie", 0)), (("back", "load", "tie", 1), ("work", "tie", "load", 0)))
FAST = (("back", 10, 15), ("work", 10, 40))
SLOW = (("back", 10, 25), ("work", 10, 40))
RUNS = ((("back", 15), ("work", 40)), (("back", 15), ("work", 20)))
NONE = (1, (), ())
STILL = (9, (("a", 0), ("b", 4)), ())
# An ARC from an EVENT to itself; two ARCS between the same EVENTS; a LAP of two days.
SELF = (10, (("a", 2), ("b", 8)), (("k", "a", "a", 1), ("l", "a", "b", 0), ("m", "b", "a", 2), ("n", "a", "b", 0)))
HOURS = (("k", 0, 12), ("l", 1, 6), ("m", 3, 14), ("n", 2, 9))
GREAT = 10 ** 60


def when(daily, runs, day, event, delay=("", 0)):
    """When an EVENT happens on a day, with a DELAY of day 0."""
    period, pairs, arcs = daily
    times = [dict(pairs)[event] + day * period + (delay[1] if (day, event) == (0, delay[0]) else 0)]
    for name, ahead, behind, days in arcs:
        if behind == event and days <= day:
            times.append(when(daily, runs, day - days, ahead, delay) + dict(runs[day])[name])
    return max(times)


def plain_played(daily, runs, delay=("", 0)):
    return [tuple([(event, when(daily, runs, day, event, delay)) for event, _ in daily[1]]) for day in range(len(runs))]


def plain_air(daily, ranges, name):
    pairs = dict(daily[1])
    _, ahead, behind, days = [arc for arc in daily[2] if arc[0] == name][0]
    high = [row[2] for row in ranges if row[0] == name][0]
    return pairs[behind] + days * daily[0] - pairs[ahead] - high


def plain_laps(daily):
    arcs = {arc[0]: arc for arc in daily[2]}
    found = []
    for many in range(1, len(daily[1]) + 1):
        for lap in itertools.permutations(arcs, many):
            ends = [arcs[name][1] for name in lap]
            goals = [arcs[name][2] for name in lap]
            if goals == ends[1:] + ends[:1] and len(set(ends)) == many and lap[0] == min(lap):
                found.append(lap)
    return sorted(found)


def long_late(daily, ranges, days):
    """By how much each EVENT is late, day by day, if all is as long as it can be."""
    airs = {arc[0]: plain_air(daily, ranges, arc[0]) for arc in daily[2]}
    rows = []
    for day in range(days):
        row = {event: 0 for event, _ in daily[1]}
        rows.append(row)
        for _ in daily[1]:
            for name, ahead, behind, back in daily[2]:
                if back <= day:
                    row[behind] = max(row[behind], rows[day - back][ahead] - airs[name])
    return rows


def some_daily(chance, arcs, events="abc", days=(0, 0, 1, 1, 2), period=6, spare=(-2, 2)):
    """A DAILY of these names, with RANGES: airs lie about spare."""
    order = list(events)
    chance.shuffle(order)
    pairs = tuple([(event, chance.randint(0, period)) for event in events])
    rows, ranges = [], []
    for name in arcs:
        back = chance.choice(days)
        ahead, behind = chance.choice(order), chance.choice(order)
        if back == 0:
            ahead, behind = [order[at] for at in sorted(chance.sample(range(len(order)), 2))]
        rows.append((name, ahead, behind, back))
        high = max(0, dict(pairs)[behind] + back * period - dict(pairs)[ahead] - chance.randint(*spare))
        ranges.append((name, max(0, high - chance.randint(0, 2)), high))
    return (period, pairs, tuple(rows)), tuple(ranges)


def cases(seed, many, arcs="klmno", **kinds):
    chance = random.Random(seed)
    for _ in range(many):
        yield some_daily(chance, arcs[:chance.randint(1, len(arcs))], **kinds)


class Dailies(unittest.TestCase):
    def test_judged(self):
        period, pairs, arcs = LINE
        bad = [(0, pairs, arcs), (-1, pairs, arcs), (60, pairs[::-1], arcs), (60, pairs, arcs[::-1]), (60, pairs[:1], arcs),
               (60, pairs[1:], arcs), (60, (("load", -1), ("tie", 0)), arcs), (60, (("load", 30), ("load", 31)), ()),
               (60, pairs, (("back", "load", "tie", -1),)), (60, pairs, (("back", "load", "tie", 0), arcs[1])),
               (60, (("a", 0),), (("x", "a", "a", 0),)), (60, pairs, (arcs[0], ("back", "tie", "load", 0))), (60, pairs),
               (60, pairs, arcs, ()), (60, pairs, (("back", "load", "tie"),)), (60, (("load", 30, 0), ("tie", 0)), ()),
               (60, pairs, (("back", "load", "tie", 1, 0),)), (60, ("load", "tie"), ()), (60, pairs, ("back",))]
        bad.extend([(60, pairs, (("back", *ends, days),)) for days in (0, 1) for ends in (("load", "zz"), ("zz", "load"), ("zz", "zz"))])
        judged(self, is_daily, (), [LINE, NONE, STILL, SELF, (1, pairs, ()), (1, (("a", 0),), (("a", "a", "a", 1),))], bad)
        self.assertIs(told(self, is_daily, (GREAT, (("a", GREAT),), (("x", "a", "a", GREAT),))), True)

    def test_rings_of_0_days(self):
        pairs = tuple([(event, 0) for event in "abcd"])
        ring = [("k", "a", "b", 0), ("l", "b", "c", 0), ("m", "c", "a", 0), ("n", "d", "a", 0)]
        self.assertIs(told(self, is_daily, (1, pairs, tuple(ring))), False)
        for at in range(3):
            open_ring = [(*arc[:3], 1) if place == at else arc for place, arc in enumerate(ring)]
            self.assertIs(told(self, is_daily, (1, pairs, tuple(open_ring))), True)

    def test_many(self):
        names = ["e" + one + two for one in "abcdefghij" for two in "abcdefghij"]
        pairs = tuple([(name, 7) for name in names])
        arcs = tuple([("a" + name, name, other, 0) for name, other in zip(names, names[1:])])
        self.assertIs(told(self, is_daily, (3, pairs, arcs)), True)
        self.assertIs(told(self, is_daily, (3, pairs, (*arcs, ("z", names[-1], names[0], 0)))), False)
        self.assertIs(told(self, is_daily, (3, pairs, (*arcs, ("z", names[-1], names[0], 400)))), True)


class Played(unittest.TestCase):
    def test_told(self):
        self.assertEqual(told(self, played, LINE, RUNS), [(("load", 40), ("tie", 0)), (("load", 90), ("tie", 60))])
        self.assertEqual(told(self, late_days, LINE, RUNS), [(("load", 10),), ()])
        long = (("back", 100), ("work", 40))
        self.assertEqual(told(self, late_days, LINE, (long, long)), [(("load", 10),), (("load", 90), ("tie", 80))])

    def test_edges(self):
        for function in (played, late_days):
            self.assertEqual(told(self, function, LINE, ()), [])
            self.assertEqual(told(self, function, NONE, ((), ())), [(), ()])
        self.assertEqual(told(self, played, STILL, ((), (("z", 4),))), [(("a", 0), ("b", 4)), (("a", 9), ("b", 13))])
        self.assertEqual(told(self, late_days, STILL, ((), ())), [(), ()])
        runs = tuple([(("k", GREAT), ("l", 0), ("m", 0), ("n", 1))] * 3)
        self.assertEqual(told(self, played, SELF, runs)[1:], [
            (("a", 2 + GREAT), ("b", 3 + GREAT)), (("a", 2 + 2 * GREAT), ("b", 3 + 2 * GREAT))])

    def test_by_trying(self):
        for daily, ranges in cases(901, 60):
            chance = random.Random(repr(daily))
            runs = tuple([chance.choice(all_runs(ranges)) for _ in range(5)])
            self.assertEqual(told(self, played, daily, runs), plain_played(daily, runs))
            late = []
            for day, row in enumerate(plain_played(daily, runs)):
                pairs = [(event, time - dict(daily[1])[event] - day * daily[0]) for event, time in row]
                late.append(tuple([pair for pair in pairs if pair[1] > 0]))
            self.assertEqual(told(self, late_days, daily, runs), late)


class Airs(unittest.TestCase):
    def test_told(self):
        self.assertEqual(told(self, air_of, LINE, FAST, "work"), -10)
        self.assertEqual(told(self, air_of, LINE, FAST, "back"), 15)
        self.assertEqual(told(self, short_arcs, LINE, SLOW), ("work",))
        self.assertEqual(told(self, short_arcs, NONE, ()), ())
        self.assertEqual(told(self, air_of, SELF, HOURS, "k"), -2)
        self.assertEqual(told(self, air_of, SELF, HOURS, "m"), 0)
        self.assertEqual(told(self, short_arcs, SELF, HOURS), ("k", "n"))
        self.assertEqual(told(self, air_of, LINE, (("back", 10, GREAT), FAST[1], ("x", 0, 1)), "back"), 30 - GREAT)

    def test_by_trying(self):
        for daily, ranges in cases(902, 60):
            airs = {arc[0]: plain_air(daily, ranges, arc[0]) for arc in daily[2]}
            for name in airs:
                self.assertEqual(told(self, air_of, daily, ranges, name), airs[name])
            self.assertEqual(told(self, short_arcs, daily, ranges), tuple([name for name in airs if airs[name] < 0]))

    def test_nobody_late(self):
        counts = [0, 0]
        for daily, ranges in cases(903, 60, "klm"):
            ends = end_runs(ranges)
            late = any(any(late_days(daily, runs)) for runs in itertools.product(ends, repeat=3))
            self.assertIs(late, short_arcs(daily, ranges) != ())
            counts[late] += 1
        self.assertGreater(min(counts), 10)


class Laps(unittest.TestCase):
    def test_told(self):
        self.assertEqual(told(self, laps, LINE), [("back", "work")])
        self.assertEqual(told(self, lap_air, LINE, FAST, ("back", "work")), 5)
        self.assertEqual(told(self, worst_lap, LINE, SLOW), ("back", "work"))
        self.assertEqual(told(self, laps, SELF), [("k",), ("l", "m"), ("m", "n")])
        self.assertEqual(told(self, lap_air, SELF, HOURS, ("k",)), -2)
        self.assertEqual(told(self, lap_air, SELF, HOURS, ("m", "n")), -3)
        self.assertEqual(told(self, worst_lap, SELF, HOURS), ("m", "n"))
        # Of two with the same air the least.
        self.assertEqual(told(self, worst_lap, SELF, (("k", 0, 13), *HOURS[1:])), ("k",))
        for daily in (NONE, STILL):
            self.assertEqual(told(self, laps, daily), [])
            self.assertIsNone(told(self, worst_lap, daily, ()))
            self.assertIs(told(self, is_kept, daily, ()), True)

    def test_by_trying(self):
        counts = [0, 0, 0]
        for daily, ranges in cases(904, 120, "klmnop", days=(0, 1, 1, 2, 5), spare=(-3, 3)):
            rows = plain_laps(daily)
            self.assertEqual(told(self, laps, daily), rows)
            airs = [sum(plain_air(daily, ranges, name) for name in lap) for lap in rows]
            for lap, number in zip(rows, airs):
                self.assertEqual(told(self, lap_air, daily, ranges, lap), number)
                self.assertIs(is_bad_lap(daily, ranges, lap), number < 0)
                counts[(number > 0) - (number < 0)] += 1
            worst = min(zip(airs, rows), default=(0, None))
            self.assertEqual(told(self, worst_lap, daily, ranges), worst[1])
            self.assertIs(told(self, is_kept, daily, ranges), worst[0] >= 0)
        self.assertGreater(min(counts), 20)

    def test_six_events(self):
        events = "abcdef"
        pairs = tuple([(event, 0) for event in events])
        ring = [("k" + event, event, other, 1) for event, other in zip(events, events[1:] + "a")]
        more = [("l" + event, event, other, 2) for event, other in zip("abcd", "badc")]
        daily = (10, pairs, tuple(ring + more))
        self.assertEqual(told(self, laps, daily), plain_laps(daily))
        self.assertIn(("ka", "kb", "kc", "kd", "ke", "kf"), laps(daily))

    def test_judged(self):
        judged(self, is_bad_lap, (LINE, SLOW), [("back", "work")], [("work", "back"), ("back",), ("work",), (),
               ("back", "work", "back", "work"), ("back", "load"), ("zz",)])
        judged(self, is_bad_lap, (LINE, FAST), [], [("back", "work"), ("work", "back"), ()])
        judged(self, is_bad_lap, (SELF, HOURS), [("k",), ("m", "n")], [("l", "m"), ("n", "m"), ("k", "k"), ("k", "l", "m"), ()])
        judged(self, is_bad_lap, (NONE, ()), [], [(), ("k",)])


class Kept(unittest.TestCase):
    def test_told(self):
        self.assertIs(told(self, is_kept, LINE, FAST), True)
        self.assertIs(told(self, is_kept, LINE, SLOW), False)
        self.assertIs(told(self, is_kept, LINE, (("back", 10, 20), ("work", 10, 40))), True)
        self.assertEqual(told(self, least_period, LINE, SLOW), 65)
        self.assertEqual(told(self, least_period, LINE, (("back", 0, 0), ("work", 0, 0))), 1)
        self.assertEqual(told(self, most_behind, LINE, FAST, "load"), 10)
        self.assertIsNone(told(self, most_behind, LINE, SLOW, "tie"))
        self.assertEqual(told(self, most_behind, LINE, FAST, "tie"), 0)
        self.assertEqual(told(self, least_period, NONE, ()), 1)
        self.assertEqual(told(self, least_period, STILL, ()), 1)
        self.assertEqual(told(self, most_behind, STILL, (), "a"), 0)
        # Three days of 10 last as long as 21 do: one of 7 is enough; 22 need one of 8.
        line = (10, (("a", 0),), (("k", "a", "a", 3),))
        self.assertEqual([told(self, least_period, line, (("k", 0, long),)) for long in (20, 21, 22)], [7, 7, 8])
        self.assertEqual(told(self, least_period, line, (("k", 0, 3 * GREAT + 1),)), GREAT + 1)

    def test_beyond_a_bad_lap(self):
        # Only what a LAP with air below 0 leads to is late without end.
        pairs = (("a", 0), ("b", 0), ("c", 0))
        line = (10, pairs, (("k", "b", "b", 1), ("l", "a", "b", 0), ("m", "b", "c", 0)))
        ranges = (("k", 0, 11), ("l", 0, 4), ("m", 0, 0))
        self.assertEqual([told(self, most_behind, line, ranges, event) for event in "abc"], [0, None, None])
        kept = (("k", 0, 10), *ranges[1:])
        self.assertEqual([told(self, most_behind, line, kept, event) for event in "abc"], [0, 4, 4])

    def test_by_trying(self):
        counts = [0, 0]
        for daily, ranges in cases(905, 120, spare=(-2, 3)):
            rows = long_late(daily, ranges, 80)
            for event, _ in daily[1]:
                late = [row[event] for row in rows]
                most = told(self, most_behind, daily, ranges, event)
                if most is None:
                    self.assertGreater(max(late[40:]), max(late[:40]))
                else:
                    self.assertEqual(max(late[:40]), most)
                    self.assertEqual(max(late), most)
                counts[most is None] += 1
            never = [most_behind(daily, ranges, event) is None for event, _ in daily[1]]
            self.assertIs(any(never), not is_kept(daily, ranges))
            period = told(self, least_period, daily, ranges)
            self.assertIs(is_kept((period, *daily[1:]), ranges), True)
            for other in range(1, period):
                self.assertIs(is_kept((other, *daily[1:]), ranges), False)
        self.assertGreater(min(counts), 30)

    def test_against_all_runs(self):
        for daily, ranges in cases(906, 25, "klm", spare=(-2, 1)):
            ends = end_runs(ranges)
            for runs in itertools.islice(itertools.product(ends, repeat=4), 0, None, 37):
                for row in late_days(daily, runs):
                    for event, number in row:
                        most = most_behind(daily, ranges, event)
                        self.assertTrue(most is None or number <= most)


class Wrong(unittest.TestCase):
    def test_runs_that_lack_a_name(self):
        for function in (played, late_days):
            refused(self, NoRange, {"name": "work"}, function, LINE, (RUNS[0], RUNS[1][:1]))

    def test_no_range(self):
        for ranges, kept in ((FAST[1:], "back"), (FAST[:1], "work"), ((), "back")):
            kept = {"name": kept}
            refused(self, NoRange, kept, air_of, LINE, ranges, "row")
            refused(self, NoRange, kept, lap_air, LINE, ranges, ("row",))
            refused(self, NoRange, kept, most_behind, LINE, ranges, "none")
            for function in (short_arcs, worst_lap, is_kept, least_period):
                refused(self, NoRange, kept, function, LINE, ranges)
            for thing in (None, (), ("back", "work"), [[]]):
                refused(self, NoRange, kept, is_bad_lap, LINE, ranges, thing)

    def test_no_event_no_arc(self):
        for name in ("row", "load", "", "Back"):
            refused(self, NoArc, {"name": name}, air_of, LINE, FAST, name)
        refused(self, NoArc, {"name": "row"}, lap_air, LINE, FAST, ("back", "row", "oar"))
        for event in ("none", "work", ""):
            refused(self, NoEvent, {"event": event}, most_behind, LINE, FAST, event)
            refused(self, NoEvent, {"event": event}, most_behind, LINE, SLOW, event)


if __name__ == "__main__":
    unittest.main()

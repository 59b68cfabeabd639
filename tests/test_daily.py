"""Point 19: lateness that dies out."""

import itertools
import random
import unittest

from slowship.daily import (
    airless_lap, day_spread, days_late, days_web, delayed, dies_out, is_airless_lap, late_on, most_borne, spans,
)
from slowship.days import is_daily, played
from slowship.errors import NoEvent, NoRange, Unfit
from slowship.spreads import greatest_spread
from slowship.times import times
from slowship.webs import is_ranges, is_web
from tests.support import all_runs, end_runs, judged, refused, told
from tests.test_days import (
    FAST, GREAT, HOURS, LINE, NONE, SELF, SLOW, STILL, cases, plain_air, plain_laps, plain_played,
)

CALM = (("back", 10, 25), ("work", 10, 25))
TAUT = (("back", 10, 30), ("work", 10, 30))
# The LAP of k has air 0, b is behind it; from c no ARC leads on to it.
BEHIND = (10, (("a", 0), ("b", 5), ("c", 0)), (("k", "a", "a", 1), ("l", "a", "b", 0), ("m", "c", "b", 0)))
LONG = (("k", 1, 10), ("l", 1, 3), ("m", 1, 4))


def late_rows(daily, ranges, delay, days):
    """The most by which each EVENT is late, day by day: all is as long as it can be."""
    airs = [(plain_air(daily, ranges, arc[0]), *arc[1:]) for arc in daily[2]]
    rows = []
    for day in range(days):
        row = {event: delay[1] if (day, event) == (0, delay[0]) else 0 for event, _ in daily[1]}
        rows.append(row)
        for _ in daily[1]:
            for air, ahead, behind, back in airs:
                if back <= day:
                    row[behind] = max(row[behind], rows[day - back][ahead] - air)
    return rows


def pairs_late(row):
    return tuple([(event, number) for event, number in row.items() if number > 0])


def led_to(daily, event):
    """The EVENT, and all to which it leads."""
    found = {event}
    for _ in daily[1]:
        found |= {arc[2] for arc in daily[2] if arc[1] in found}
    return found


def plain_airless(daily, ranges, event):
    """The LAPS with air 0 that a DELAY of the EVENT comes to."""
    start = {arc[0]: arc[1] for arc in daily[2]}
    rows = [lap for lap in plain_laps(daily) if sum(plain_air(daily, ranges, name) for name in lap) == 0]
    return [lap for lap in rows if start[lap[0]] in led_to(daily, event)]


def punctual(seed, many, arcs="klmn", spare=(0, 3), **kinds):
    """DAILIES without an ARC with air below 0: where a length can not be below 0 the case is left out."""
    for daily, ranges in cases(seed, many, arcs, spare=spare, **kinds):
        if all(plain_air(daily, ranges, arc[0]) >= 0 for arc in daily[2]):
            yield daily, ranges


def plain_spans(daily, ranges):
    """The most days of a dragging row, 0 if there is none; above 2 all are one."""
    airs = {arc[0]: plain_air(daily, ranges, arc[0]) for arc in daily[2]}
    most, waiting, seen = 0, [(event, 0, 0) for event, _ in daily[1]], set()
    while waiting:
        here, days, air = waiting.pop()
        for name, ahead, behind, back in daily[2]:
            row = (behind, days + back, air + airs[name])
            if ahead == here and row[2] < 0 and row not in seen:
                seen.add(row)
                most = max(most, row[1])
                if row[1] <= 2:
                    waiting.append(row)
    return None if most > 2 else most


class Delayed(unittest.TestCase):
    def test_told(self):
        runs = ((("back", 10), ("work", 25)),)
        self.assertEqual(told(self, delayed, LINE, ("tie", 12), runs), [(("load", 37), ("tie", 12))])
        self.assertEqual(told(self, delayed, LINE, ("tie", 12), ()), [])
        for event in ("tie", "load"):
            self.assertEqual(told(self, delayed, LINE, (event, 0), runs * 3), played(LINE, runs * 3))
        self.assertEqual(told(self, delayed, STILL, ("a", GREAT), ((), ())), [(("a", GREAT), ("b", 4)), (("a", 9), ("b", 13))])

    def test_by_trying(self):
        for daily, ranges in cases(1001, 50):
            chance = random.Random(repr(daily))
            runs = tuple([chance.choice(all_runs(ranges)) for _ in range(4)])
            delay = chance.choice(daily[1])[0], chance.choice((0, 1, 5, 20))
            self.assertEqual(told(self, delayed, daily, delay, runs), plain_played(daily, runs, delay))


class LateOn(unittest.TestCase):
    def test_told(self):
        rows = [(("load", 7), ("tie", 12)), (("tie", 2),), ()]
        self.assertEqual([told(self, late_on, LINE, CALM, ("tie", 12), day) for day in range(3)], rows)
        self.assertEqual(told(self, late_on, LINE, CALM, ("tie", 0), 0), ())
        self.assertEqual(told(self, late_on, LINE, TAUT, ("tie", 3), 1000), (("load", 3), ("tie", 3)))
        self.assertEqual(told(self, late_on, LINE, CALM, ("tie", GREAT), 1000), (("load", GREAT - 10005), ("tie", GREAT - 10000)))
        self.assertEqual(told(self, late_on, STILL, (), ("a", 5), 0), (("a", 5),))
        self.assertEqual(told(self, late_on, STILL, (), ("a", 5), 1), ())

    def test_by_trying(self):
        for daily, ranges in punctual(1002, 60):
            delay = daily[1][-1][0], 9
            rows = late_rows(daily, ranges, delay, 12)
            for day in (0, 1, 2, 5, 11):
                self.assertEqual(told(self, late_on, daily, ranges, delay, day), pairs_late(rows[day]))

    def test_against_all_runs(self):
        for daily, ranges in punctual(1003, 25, "klm"):
            delay = daily[1][0][0], 4
            most = [dict() for _ in range(3)]
            for runs in itertools.product(end_runs(ranges), repeat=3):
                for day, row in enumerate(plain_played(daily, runs, delay)):
                    for event, time in row:
                        late = time - dict(daily[1])[event] - day * daily[0]
                        most[day][event] = max(most[day].get(event, 0), late)
            for day in range(3):
                self.assertEqual(late_on(daily, ranges, delay, day), pairs_late(most[day]))


class DiesOut(unittest.TestCase):
    def test_told(self):
        self.assertIs(told(self, dies_out, LINE, CALM, "tie"), True)
        self.assertIs(told(self, dies_out, LINE, TAUT, "tie"), False)
        self.assertEqual(told(self, airless_lap, LINE, TAUT, "load"), ("back", "work"))
        self.assertIsNone(told(self, airless_lap, LINE, CALM, "load"))
        self.assertEqual(told(self, days_late, LINE, CALM, ("tie", 12)), 2)
        self.assertIsNone(told(self, days_late, LINE, TAUT, ("tie", 1)))

    def test_edges(self):
        self.assertEqual([told(self, dies_out, BEHIND, LONG, event) for event in "abc"], [False, True, True])
        self.assertEqual([told(self, airless_lap, BEHIND, LONG, event) for event in "abc"], [("k",), None, None])
        self.assertIs(told(self, dies_out, STILL, (), "a"), True)
        # A DELAY that is made good ahead of a LAP without air is over.
        line = (10, (("a", 0), ("b", 5)), (("k", "b", "b", 1), ("l", "a", "b", 0)))
        ranges = (("k", 0, 10), ("l", 0, 2))
        self.assertEqual([told(self, days_late, line, ranges, ("a", number)) for number in (0, 1, 3, 4)], [0, 1, 1, None])
        self.assertIs(told(self, dies_out, line, ranges, "a"), False)
        self.assertEqual(told(self, days_late, LINE, TAUT, ("tie", 0)), 0)
        # It can be over on a day, and somebody late again behind it.
        gap = (10, (("a", 0), ("b", 0)), (("k", "a", "b", 4),))
        self.assertEqual(told(self, days_late, gap, (("k", 0, 39),), ("a", 5)), 5)
        self.assertEqual(told(self, days_late, gap, (("k", 0, 39),), ("a", 1)), 1)
        self.assertEqual(told(self, days_late, gap, (("k", 0, 35),), ("a", 5)), 1)
        slow = (10, (("a", 0),), (("k", "a", "a", 5),))
        self.assertEqual(told(self, days_late, slow, (("k", 0, 49),), ("a", 100)), 496)
        self.assertEqual(told(self, days_late, STILL, (), ("a", 100)), 1)

    def test_by_trying(self):
        counts = [0, 0, 0]
        for daily, ranges in punctual(1004, 150, days=(0, 1, 1, 2), spare=(0, 2)):
            for event, _ in daily[1]:
                rows = plain_airless(daily, ranges, event)
                self.assertEqual(told(self, airless_lap, daily, ranges, event), min(rows, default=None))
                self.assertIs(told(self, dies_out, daily, ranges, event), rows == [])
                for lap in plain_laps(daily):
                    self.assertIs(is_airless_lap(daily, ranges, event, lap), lap in rows)
                over = [self.check_over(daily, ranges, (event, number)) for number in (0, 1, 2, 7)]
                counts[0 if not rows else 1 if None in over else 2] += 1
                self.assertEqual(over[0], 0)
                if not rows:
                    self.assertNotIn(None, over)
        self.assertGreater(min(counts[:2]), 20)

    def check_over(self, daily, ranges, delay):
        """days_late against what is played out: who is late on day 60 is late for ever."""
        late = [day for day, row in enumerate(late_rows(daily, ranges, delay, 60)) if pairs_late(row)]
        over = None if 59 in late or 58 in late else max(late, default=-1) + 1
        self.assertEqual(told(self, days_late, daily, ranges, delay), over)
        return over

    def test_judged(self):
        judged(self, is_airless_lap, (LINE, TAUT, "tie"), [("back", "work")], [("work", "back"), ("back",), (), ("zz",)])
        judged(self, is_airless_lap, (LINE, CALM, "tie"), [], [("back", "work"), ("work", "back"), ()])
        judged(self, is_airless_lap, (BEHIND, LONG, "a"), [("k",)], [("l",), ("k", "k"), ("m",), ()])
        judged(self, is_airless_lap, (BEHIND, LONG, "b"), [], [("k",), ()])


class Borne(unittest.TestCase):
    def test_told(self):
        self.assertEqual(told(self, most_borne, LINE, CALM, "tie", ("load",)), 5)
        self.assertIsNone(told(self, most_borne, (9, (("a", 0), ("b", 0)), ()), (), "a", ("b",)))
        self.assertEqual(told(self, most_borne, LINE, CALM, "tie", ("load", "tie")), 0)
        self.assertEqual(told(self, most_borne, LINE, TAUT, "load", ("tie",)), 0)
        self.assertIsNone(told(self, most_borne, BEHIND, LONG, "b", ("a", "c")))
        self.assertEqual(told(self, most_borne, BEHIND, LONG, "c", ("a", "b")), 1)
        self.assertEqual(told(self, most_borne, (GREAT, *LINE[1:]), CALM, "load", ("tie",)), GREAT - 55)

    def test_by_trying(self):
        counts = [0, 0]
        for daily, ranges in punctual(1005, 80, spare=(0, 4)):
            events = [event for event, _ in daily[1]]
            for event in events:
                for some in [(one,) for one in events] + [tuple(events[:2]), tuple(events)]:
                    most = told(self, most_borne, daily, ranges, event, some)
                    for number in [0, 1, 2, 5, 60] if most is None else range(most + 3):
                        rows = late_rows(daily, ranges, (event, number), 25)
                        late = any(row[one] > 0 for row in rows for one in some)
                        self.assertIs(late, most is not None and number > most)
                    counts[most is None] += 1
        self.assertGreater(min(counts), 50)


class DaysWeb(unittest.TestCase):
    def test_told(self):
        self.assertEqual(told(self, days_web, LINE, CALM, 1), (
            (("begin", "loada", "tiea"), (("loadaz", "begin", "loada"), ("tieaz", "begin", "tiea"), ("worka", "tiea", "loada"))),
            (("loadaz", 30, 30), ("tieaz", 0, 0), ("worka", 10, 25))))
        web, ranges = told(self, days_web, LINE, CALM, 2)
        self.assertIn(("backb", "loada", "tieb"), web[1])
        self.assertEqual([row for row in ranges if row[0] in ("tiebz", "backb")], [("backb", 10, 25), ("tiebz", 60, 60)])
        self.assertEqual(told(self, days_web, NONE, (), 5), ((("begin",), ()), ()))
        self.assertEqual(told(self, days_web, STILL, (("z", 0, 1),), 1)[1], (("aaz", 0, 0), ("baz", 4, 4)))

    def test_names(self):
        # Names that are alike, that of the EVENT more among them, stay unlike.
        line = (7, (("a", 1), ("aa", 2), ("begin", 3), ("z", 4), ("zzzzzz", 5)), (("a", "a", "aa", 0), ("aa", "z", "z", 1)))
        for many in range(1, 6):
            web, ranges = told(self, days_web, line, (("a", 0, 1), ("aa", 2, 3)), many)
            self.assertTrue(is_web(web) and is_ranges(ranges))
            self.assertEqual((len(web[0]), len(web[1]), len(ranges)), (1 + 5 * many, 7 * many - 1, 7 * many - 1))

    def test_by_trying(self):
        for daily, ranges in cases(1006, 40):
            chance = random.Random(repr(daily))
            for many in (1, 2, 5):
                web, wide = told(self, days_web, daily, ranges, many)
                self.assertTrue(is_web(web) and is_ranges(wide))
                self.assertEqual([row[0] for row in wide], [arc[0] for arc in web[1]])
                runs = tuple([chance.choice(all_runs(ranges)) for _ in range(many)])
                lengths = {name + "abcde"[day]: length for day, run in enumerate(runs) for name, length in run}
                run = tuple([(name, lengths.get(name, low)) for name, low, _ in wide])
                found = dict(times(web, run))
                for day, row in enumerate(played(daily, runs)):
                    for event, time in row:
                        self.assertEqual(found[event + "abcde"[day]], time)


class Spans(unittest.TestCase):
    def test_told(self):
        self.assertEqual(told(self, spans, LINE, FAST), 0)
        self.assertIsNone(told(self, spans, LINE, SLOW))
        self.assertEqual(told(self, spans, LINE, CALM), 0)
        self.assertEqual(told(self, spans, NONE, ()), 0)
        self.assertIsNone(told(self, spans, SELF, HOURS))
        for days, most in ((1, 1), (2, 2), (3, None), (5, None)):
            line = (10, (("a", 0), ("b", 0)), (("k", "a", "b", days),))
            self.assertEqual(told(self, spans, line, (("k", 0, 10 * days + 1),)), most)
            self.assertEqual(told(self, spans, line, (("k", 0, 10 * days),)), 0)

    def test_rows(self):
        # Each of the first ones added up has to be below 0: from b on l alone does not drag.
        line = (10, (("a", 0), ("b", 0), ("c", 0)), (("k", "a", "b", 1), ("l", "b", "c", 1)))
        self.assertEqual(told(self, spans, line, (("k", 0, 12), ("l", 0, 9))), 2)
        self.assertEqual(told(self, spans, line, (("k", 0, 12), ("l", 0, 8))), 1)
        self.assertEqual(told(self, spans, line, (("k", 0, 10), ("l", 0, 11))), 1)
        self.assertEqual(told(self, spans, line, (("k", 0, 9), ("l", 0, 12))), 1)
        self.assertEqual(told(self, spans, line, (("k", 0, 9), ("l", 0, 10))), 0)

    def test_by_trying(self):
        counts = {}
        for daily, ranges in cases(1007, 300, "klmn", days=(0, 0, 0, 1, 1, 2), spare=(-2, 4)):
            most = told(self, spans, daily, ranges)
            self.assertEqual(most, plain_spans(daily, ranges))
            counts[most] = counts.get(most, 0) + 1
        self.assertGreater(min(counts[most] for most in (None, 0, 1, 2)), 10)


class DaySpread(unittest.TestCase):
    def test_told(self):
        self.assertEqual(told(self, day_spread, LINE, FAST, "load", "tie", 0), 40)
        self.assertEqual(told(self, day_spread, LINE, FAST, "load", "tie", 1), -20)
        self.assertEqual(told(self, day_spread, LINE, FAST, "load", "tie", -1), 100)
        for event in ("load", "tie"):
            self.assertEqual(told(self, day_spread, LINE, FAST, event, event, 0), 0)
        self.assertEqual(told(self, day_spread, LINE, FAST, "tie", "load", 0), -30)
        self.assertEqual(told(self, day_spread, (GREAT, *STILL[1:]), (), "a", "b", -1), GREAT - 4)

    def test_long_names(self):
        line = (60, (("loadings", 30), ("tyingups", 0)),
                (("backwars", "loadings", "tyingups", 1), ("workings", "tyingups", "loadings", 0)))
        ranges = (("backwars", 10, 15), ("workings", 10, 40))
        self.assertEqual(told(self, day_spread, line, ranges, "loadings", "tyingups", 0), 40)
        self.assertEqual(told(self, spans, line, ranges), 0)

    def test_by_trying(self):
        counts = {}
        for daily, ranges in cases(1008, 220, "kl", events="ab", days=(0, 1, 1, 2), spare=(-2, 4)):
            most = spans(daily, ranges)
            if most is None:
                continue
            counts[most] = counts.get(most, 0) + 1
            self.check_spreads(daily, ranges, 4)
        self.assertGreater(min(counts[most] for most in (0, 1, 2)), 5)

    def check_spreads(self, daily, ranges, days):
        """Against all RUNS of least and greatest lengths, and so many days."""
        found = {}
        for runs in itertools.product(end_runs(ranges), repeat=days):
            rows = [dict(row) for row in played(daily, runs)]
            for day, on in itertools.product(range(days), (-1, 0, 1)):
                if 0 <= day + on < days:
                    for one, other in itertools.product(rows[0], repeat=2):
                        late = rows[day][one] - rows[day + on][other]
                        found[one, other, on] = max(found.get((one, other, on), late), late)
        for (one, other, on), most in found.items():
            self.assertEqual(told(self, day_spread, daily, ranges, one, other, on), most)

    def test_by_webs(self):
        counts = {}
        for daily, ranges in cases(1009, 120, "klmnop", events="abcd", days=(0, 0, 1, 2), spare=(-2, 4)):
            most = spans(daily, ranges)
            counts[most] = counts.get(most, 0) + 1
            if most is None:
                refused(self, Unfit, {}, day_spread, daily, ranges, "a", "b", 0)
                continue
            web, wide = days_web(daily, ranges, 5)
            for on in (-1, 0, 1):
                found = [greatest_spread(web, "c" + "abcde"[day], web, ("b" + "abcde"[day + on],), wide)
                         for day in range(5) if 0 <= day + on < 5]
                self.assertEqual(day_spread(daily, ranges, "c", "b", on), max(found))
        self.assertGreater(min(counts[most] for most in (None, 0, 1, 2)), 5)


class Wrong(unittest.TestCase):
    def test_no_range(self):
        kept = {"name": "work"}
        for ranges in (SLOW[:1], TAUT[:1]):
            refused(self, NoRange, kept, late_on, LINE, ranges, ("none", 3), 1)
            refused(self, NoRange, kept, days_late, LINE, ranges, ("none", 3))
            refused(self, NoRange, kept, most_borne, LINE, ranges, "none", ("no",))
            refused(self, NoRange, kept, days_web, LINE, ranges, 1)
            refused(self, NoRange, kept, spans, LINE, ranges)
            refused(self, NoRange, kept, day_spread, LINE, ranges, "none", "no", 0)
            for function in (dies_out, airless_lap):
                refused(self, NoRange, kept, function, LINE, ranges, "none")
            for thing in (None, (), ("back", "work"), [[]]):
                refused(self, NoRange, kept, is_airless_lap, LINE, ranges, "none", thing)

    def test_no_event(self):
        for runs in ((), ((("back", 10), ("work", 25)),)):
            refused(self, NoEvent, {"event": "work"}, delayed, LINE, ("work", 3), runs)
        for ranges in (CALM, SLOW):
            kept = {"event": "work"}
            refused(self, NoEvent, kept, late_on, LINE, ranges, ("work", 3), 1)
            refused(self, NoEvent, kept, days_late, LINE, ranges, ("work", 3))
            refused(self, NoEvent, kept, most_borne, LINE, ranges, "work", ("no",))
            refused(self, NoEvent, {"event": "no"}, most_borne, LINE, ranges, "tie", ("load", "no", "none"))
            refused(self, NoEvent, kept, day_spread, LINE, ranges, "work", "no", 0)
            refused(self, NoEvent, {"event": "no"}, day_spread, LINE, ranges, "load", "no", 1)
            for function in (dies_out, airless_lap):
                refused(self, NoEvent, kept, function, LINE, ranges, "work")
            for thing in (None, (), ("back", "work"), [[]]):
                refused(self, NoEvent, kept, is_airless_lap, LINE, ranges, "work", thing)

    def test_unfit(self):
        for ranges in (FAST, SLOW):
            refused(self, Unfit, {}, late_on, LINE, ranges, ("tie", 1), 0)
            refused(self, Unfit, {}, days_late, LINE, ranges, ("tie", 1))
            refused(self, Unfit, {}, most_borne, LINE, ranges, "tie", ("load",))
            for function in (dies_out, airless_lap):
                refused(self, Unfit, {}, function, LINE, ranges, "tie")
            for thing in (None, (), ("back", "work"), [[]]):
                refused(self, Unfit, {}, is_airless_lap, LINE, ranges, "tie", thing)
        refused(self, Unfit, {}, day_spread, LINE, SLOW, "load", "tie", 0)
        self.assertTrue(is_daily(LINE))
        self.assertEqual(told(self, days_web, LINE, SLOW, 1)[1][2], ("worka", 10, 40))


if __name__ == "__main__":
    unittest.main()

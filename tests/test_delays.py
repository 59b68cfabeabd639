"""Point 16: late events."""

import itertools
import random
import unittest

from slowship.delays import (
    always_late, apart_ways, early_paper, fewest_cut, is_apart_ways, is_early_paper, is_late_paper, late_by, late_paper,
    late_times, least_late, least_lates, most_late, sometimes_late,
)
from slowship.errors import NoEvent, NoPaper, NoRange, Unfit
from tests.support import all_runs, end_runs, judged, outcome, refused, slow, small_cases, some_web, subsets, told, ways_in
from tests.test_webs import EMPTY

WEB = (("a", "b", "c"), (("p", "a", "b"), ("q", "b", "c"), ("r", "a", "c")))
RANGES = (("p", 1, 3), ("q", 2, 2), ("r", 0, 6))
RUN = (("p", 1), ("q", 2), ("r", 6))
LATES = (("b", 2),)
DOCK = (("a", "b", "c", "o"), (("p", "a", "b"), ("q", "b", "c"), ("w", "o", "c")))
HOURS = (("p", 1, 1), ("q", 2, 2), ("w", 4, 4))
BOTH = (("a", 1), ("b", 1))
GREAT = 10 ** 60


def time_with(web, run, lates, event):
    """When an EVENT happens in the RUN with LATES."""
    lengths = dict(run)
    found = [time_with(web, run, lates, ahead) + lengths[name] for name, ahead, behind in web[1] if behind == event]
    return max(found, default=0) + dict(lates).get(event, 0)


def late_in(web, run, lates, event):
    return time_with(web, run, lates, event) - time_with(web, run, (), event)


def cases(seed, many, most=3, arcs="pqrst", events="abcde"):
    chance = random.Random(seed)
    for web, ranges in small_cases(seed, many, arcs, events):
        picked = sorted(chance.sample(web[0], chance.randint(0, most)))
        yield web, ranges, tuple([(event, chance.choice((0, 1, 1, 2, 4))) for event in picked])


def rows_between(arcs, one, other):
    """All rows of names of ARCS one behind another from one to other."""
    found = []
    for name, ahead, behind in arcs:
        if ahead == one:
            found.extend([(name,)] if behind == other else [(name, *row) for row in rows_between(arcs, behind, other)])
    return sorted(found)


def most_rows(rows):
    """How many of these rows can be taken at the most, no name in two of them."""
    if not rows:
        return 0
    free = [row for row in rows[1:] if not set(row) & set(rows[0])]
    return max(1 + most_rows(free), most_rows(rows[1:]))


class Late(unittest.TestCase):
    def test_told(self):
        self.assertEqual(told(self, late_times, WEB, RUN, LATES), (("a", 0), ("b", 3), ("c", 6)))
        self.assertEqual(told(self, late_by, WEB, RUN, LATES, "c"), 0)
        self.assertEqual(told(self, late_by, WEB, RUN, LATES, "b"), 2)
        self.assertEqual(told(self, least_late, WEB, RANGES, LATES, "c"), 0)
        self.assertEqual(told(self, most_late, WEB, RANGES, LATES, "c"), 2)
        self.assertEqual(told(self, sometimes_late, WEB, RANGES, LATES), ("b", "c"))
        self.assertEqual(told(self, always_late, WEB, RANGES, LATES), ("b",))

    def test_edges(self):
        self.assertEqual(told(self, late_times, EMPTY, (), ()), ())
        self.assertEqual(told(self, late_times, WEB, (*RUN, ("z", 9)), ()), (("a", 0), ("b", 1), ("c", 6)))
        for event in WEB[0]:
            self.assertEqual(told(self, least_late, WEB, RANGES, (), event), 0)
            self.assertEqual(told(self, most_late, WEB, RANGES, (), event), 0)
            self.assertEqual(told(self, late_by, WEB, RUN, (), event), 0)
        none = tuple([(event, 0) for event in WEB[0]])
        for lates in ((), none):
            self.assertEqual(told(self, sometimes_late, WEB, RANGES, lates), ())
            self.assertEqual(told(self, always_late, WEB, RANGES, lates), ())
        # An EVENT without ARCS into it: late by what LATES tell.
        self.assertEqual(told(self, late_by, WEB, RUN, (("a", 5),), "a"), 5)
        self.assertEqual(told(self, most_late, WEB, RANGES, (("a", 5),), "a"), 5)
        self.assertEqual(told(self, least_late, WEB, RANGES, (("a", 5),), "a"), 5)
        self.assertEqual(told(self, late_times, WEB, RUN, (("a", 5),)), (("a", 5), ("b", 6), ("c", 11)))
        self.assertEqual(told(self, always_late, WEB, RANGES, (("a", 5),)), ("a", "b", "c"))
        still = (("a", "b"), ())
        self.assertEqual(told(self, sometimes_late, still, (), (("b", 1),)), ("b",))

    def test_great_numbers(self):
        lates = (("a", GREAT), ("b", 2 ** 65))
        self.assertEqual(told(self, most_late, WEB, RANGES, lates, "c"), GREAT + 2 ** 65)
        self.assertEqual(told(self, least_late, WEB, RANGES, lates, "c"), GREAT + 2 ** 65 - 3)
        self.assertEqual(told(self, late_times, WEB, RUN, lates)[2], ("c", GREAT + 2 ** 65 + 3))
        wide = (("p", 1, GREAT), ("q", 2, 2), ("r", 0, 2 * GREAT))
        self.assertEqual(told(self, least_late, WEB, wide, (("b", GREAT),), "c"), 0)
        self.assertEqual(told(self, most_late, WEB, wide, (("b", GREAT),), "c"), GREAT)

    def test_by_trying(self):
        for web, ranges, lates in cases(701, 50):
            runs = all_runs(ranges)
            some, each = [], []
            for event in web[0]:
                late = [late_in(web, run, lates, event) for run in runs]
                self.assertEqual(told(self, least_late, web, ranges, lates, event), min(late))
                self.assertEqual(told(self, most_late, web, ranges, lates, event), max(late))
                some.extend([event] if max(late) > 0 else [])
                each.extend([event] if min(late) > 0 else [])
            self.assertEqual(told(self, sometimes_late, web, ranges, lates), tuple(some))
            self.assertEqual(told(self, always_late, web, ranges, lates), tuple(each))
            for run in runs[::40]:
                times = tuple([(event, time_with(web, run, lates, event)) for event in web[0]])
                self.assertEqual(told(self, late_times, web, run, lates), times)
                for event in web[0]:
                    self.assertEqual(late_by(web, run, lates, event), late_in(web, run, lates, event))


class Papers(unittest.TestCase):
    def test_told(self):
        self.assertEqual(told(self, late_paper, WEB, RANGES, LATES, "c", 2), ("p", "q"))
        self.assertEqual(told(self, early_paper, WEB, RANGES, LATES, "c", 0), ("r",))
        refused(self, NoPaper, {}, late_paper, WEB, RANGES, LATES, "c", 3)
        refused(self, NoPaper, {}, early_paper, WEB, RANGES, LATES, "c", -1)
        self.assertEqual(told(self, late_paper, WEB, RANGES, LATES, "a", 0), ())
        self.assertEqual(told(self, early_paper, WEB, RANGES, (("a", 3),), "a", 3), ())
        refused(self, NoPaper, {}, early_paper, WEB, RANGES, (("a", 3),), "a", 2)
        refused(self, NoPaper, {}, late_paper, WEB, RANGES, (), "a", 1)
        self.assertIn(told(self, late_paper, WEB, RANGES, (), "c", -GREAT), (("p", "q"), ("r",)))
        self.assertIn(told(self, early_paper, WEB, RANGES, (), "c", GREAT), (("p", "q"), ("r",)))

    def test_by_trying(self):
        refusals = 0
        for web, ranges, lates in cases(702, 30):
            for event in web[0]:
                late = {way: late_in(web, slow(ranges, way), lates, event) for way in ways_in(web, event)}
                for number in range(-1, max(late.values()) + 3):
                    above = [way for way in late if late[way] >= number]
                    below = [way for way in late if late[way] <= number]
                    for function, judge, good in ((late_paper, is_late_paper, above), (early_paper, is_early_paper, below)):
                        args = (web, ranges, lates, event, number)
                        found = outcome(function, args, {})
                        self.assertTrue(found[1] in good if good else found[1:] == (NoPaper, {}))
                        for way in late:
                            self.assertIs(judge(*args, way), way in good)
                        refusals += not good
                self.assertEqual(max(late.values()), most_late(web, ranges, lates, event))
                self.assertEqual(min(late.values()), least_late(web, ranges, lates, event))
        self.assertGreater(refusals, 100)

    def test_asked_in_all_ways(self):
        for web, ranges, lates in cases(703, 8):
            for event in web[0]:
                most, least = most_late(web, ranges, lates, event), least_late(web, ranges, lates, event)
                self.assertIn(told(self, late_paper, web, ranges, lates, event, most), ways_in(web, event))
                self.assertIn(told(self, early_paper, web, ranges, lates, event, least), ways_in(web, event))
                refused(self, NoPaper, {}, late_paper, web, ranges, lates, event, most + 1)
                refused(self, NoPaper, {}, early_paper, web, ranges, lates, event, least - 1)

    def test_judged(self):
        bad = [(), ("p",), ("q",), ("q", "p"), ("p", "q", "r"), ("b",), ("p", "b ", "q"), ("p", "q", "q"), ("zz",)]
        judged(self, is_late_paper, (WEB, RANGES, LATES, "c", 2), [("p", "q")], [("r",), *bad])
        judged(self, is_late_paper, (WEB, RANGES, LATES, "c", 3), [], [("p", "q"), ("r",), *bad])
        judged(self, is_late_paper, (WEB, RANGES, LATES, "c", 0), [("p", "q"), ("r",)], bad)
        judged(self, is_early_paper, (WEB, RANGES, LATES, "c", 0), [("r",)], [("p", "q"), *bad])
        judged(self, is_early_paper, (WEB, RANGES, LATES, "c", 2), [("p", "q"), ("r",)], bad)
        judged(self, is_late_paper, (WEB, RANGES, LATES, "a", 0), [()], [("p",), ("r",)])


class LeastLates(unittest.TestCase):
    def test_told(self):
        self.assertEqual([told(self, most_late, DOCK, HOURS, own, "c") for own in (BOTH[:1], BOTH[1:], BOTH)], [0, 0, 1])
        self.assertEqual(told(self, least_lates, DOCK, HOURS, BOTH, "c", 1), BOTH)
        self.assertEqual(told(self, least_lates, DOCK, HOURS, BOTH, "c", 0), ())
        self.assertEqual(told(self, least_lates, DOCK, HOURS, BOTH, "c", -GREAT), ())
        self.assertEqual(told(self, least_lates, DOCK, HOURS, BOTH, "b", 1), (("a", 1),))
        refused(self, NoPaper, {}, least_lates, DOCK, HOURS, BOTH, "c", 2)
        refused(self, NoPaper, {}, least_lates, DOCK, HOURS, (), "c", 1)
        self.assertEqual(told(self, least_lates, DOCK, HOURS, (), "c", 0), ())

    def test_by_trying(self):
        sizes = [0, 0, 0, 0, 0]
        for web, ranges, lates in cases(704, 40, 4):
            runs = end_runs(ranges)
            for event in web[0]:
                most = {some: max(late_in(web, run, some, event) for run in runs) for some in subsets(lates)}
                for number in range(most[lates] + 2):
                    good = [some for some in most if most[some] >= number]
                    if not good:
                        refused(self, NoPaper, {}, least_lates, web, ranges, lates, event, number)
                        continue
                    least = min(good, key=lambda some: (len(some), some))
                    self.assertEqual(told(self, least_lates, web, ranges, lates, event, number), least)
                    sizes[len(least)] += 1
        self.assertGreater(min(sizes[:3]), 10)

    def test_six_pairs(self):
        events = tuple("abcdefg")
        web = events, tuple([("k" + one, one, other) for one, other in zip(events, events[1:])])
        ranges = tuple([(arc[0], 1, 2) for arc in web[1]])
        lates = tuple([(event, 2 ** at) for at, event in enumerate(events[:6])])
        self.assertEqual(told(self, least_lates, web, ranges, lates, "g", 63), lates)
        self.assertEqual(told(self, least_lates, web, ranges, lates, "g", 33), (("a", 1), ("f", 32)))
        self.assertEqual(told(self, least_lates, web, ranges, lates, "g", 32), (("f", 32),))
        self.assertEqual(told(self, least_lates, web, ranges, lates, "g", 51), (("c", 4), ("e", 16), ("f", 32)))
        self.assertEqual(told(self, least_lates, web, ranges, lates, "d", 9), (("a", 1), ("d", 8)))


class Cuts(unittest.TestCase):
    def test_told(self):
        self.assertEqual(told(self, fewest_cut, WEB, "a", "c"), ("p", "r"))
        self.assertEqual(told(self, apart_ways, WEB, "a", "c"), (("p", "q"), ("r",)))
        self.assertEqual(told(self, fewest_cut, WEB, "c", "a"), ())
        self.assertEqual(told(self, apart_ways, WEB, "c", "a"), ())
        self.assertEqual(told(self, fewest_cut, DOCK, "a", "c"), ("p",))
        self.assertEqual(told(self, fewest_cut, DOCK, "a", "o"), ())

    def test_by_trying(self):
        chance = random.Random(705)
        counts = {}
        for _ in range(60):
            names = "klmnopqr"[:chance.randint(4, 8)]
            web = some_web(chance, names, tuple("abcde"[:chance.randint(3, 5)]))
            for one, other in itertools.permutations(web[0], 2):
                rows = rows_between(web[1], one, other)
                cuts = [some for some in subsets(names) if all(set(row) & set(some) for row in rows)]
                cut = told(self, fewest_cut, web, one, other)
                self.assertEqual(cut, min(cuts, key=lambda some: (len(some), some)))
                apart = told(self, apart_ways, web, one, other)
                self.assertEqual(len(apart), most_rows(rows))
                self.assertEqual(len(apart), len(cut))
                self.assertTrue(all(row in rows for row in apart))
                self.assertEqual(len({name for row in apart for name in row}), sum(len(row) for row in apart))
                self.assertIs(is_apart_ways(web, one, other, apart), True)
                self.assertIs(is_apart_ways(web, one, other, apart[::-1]), True)
                self.assertIs(is_apart_ways(web, one, other, apart[1:]), apart == ())
                counts[len(cut)] = counts.get(len(cut), 0) + 1
        self.assertGreater(min(counts[many] for many in (0, 1, 2, 3)), 10)

    def test_taken_back(self):
        # Over the middle one row goes first, so that it has to be parted for two.
        web = (("a", "b", "c", "d"), (("k", "a", "b"), ("l", "a", "c"), ("m", "b", "c"), ("n", "b", "d"), ("o", "c", "d")))
        for order in itertools.permutations("klmno"):
            called = dict(zip("klmno", order))
            other = web[0], tuple(sorted([(called[name], *pair) for name, *pair in web[1]]))
            self.assertEqual(len(told(self, apart_ways, other, "a", "d")), 2)
            self.assertEqual(len(told(self, fewest_cut, other, "a", "d")), 2)

    def test_judged(self):
        bad = [(("p", "q"),), (("r",),), (("r",), ("r",)), (("p", "q"), ("r",), ()), (), (("p",), ("r",)), (("q", "p"), ("r",)),
               (("p", "q"), ("r",), ("r",)), (("p", "q", "r"),), (("p", "q"), ("zz",)), (("p", "q"), ()),
               (("p", "zz"), ("r",)), (("zz", "q"), ("r",))]
        good = [(("p", "q"), ("r",)), (("r",), ("p", "q"))]
        judged(self, is_apart_ways, (WEB, "a", "c"), good, bad)
        judged(self, is_apart_ways, (WEB, "c", "a"), [()], [((),), *good, *bad[:2]])
        judged(self, is_apart_ways, (WEB, "b", "c"), [(("q",),)], [(), *good])

    def test_sixteen_arcs(self):
        names = tuple("abcdefghijklmnop")
        web = (("x", "y", "z"), tuple([(name, "x" if name < "i" else "y", "y" if name < "i" else "z") for name in names]))
        self.assertEqual(told(self, fewest_cut, web, "x", "z"), tuple("abcdefgh"))
        self.assertEqual(len(told(self, apart_ways, web, "x", "z")), 8)
        self.assertEqual(told(self, fewest_cut, web, "y", "z"), tuple("ijklmnop"))


class Wrong(unittest.TestCase):
    def test_no_range(self):
        lack, kept = RANGES[:1] + RANGES[2:], {"name": "q"}
        run, lates = RUN[:1] + RUN[2:], (("no", 1),)
        refused(self, NoRange, kept, late_times, WEB, run, lates)
        refused(self, NoRange, {"name": "p"}, late_times, WEB, (), lates)
        refused(self, NoRange, kept, late_by, WEB, run, lates, "none")
        for function in (sometimes_late, always_late):
            refused(self, NoRange, kept, function, WEB, lack, lates)
        for function in (least_late, most_late):
            refused(self, NoRange, kept, function, WEB, lack, lates, "none")
        for function in (late_paper, early_paper, least_lates):
            refused(self, NoRange, kept, function, WEB, lack, lates, "none", GREAT)
        for thing in (None, (), ("p", "q"), [[]]):
            for function in (is_late_paper, is_early_paper):
                refused(self, NoRange, kept, function, WEB, lack, lates, "none", 0, thing)

    def test_no_event(self):
        lates = (("b", 1), ("no", 1), ("nor", 2))
        for first, event, kept in ((lates, "none", "no"), (LATES, "none", "none"), (lates, "c", "no"), (LATES, "p", "p")):
            kept = {"event": kept}
            refused(self, NoEvent, kept, late_by, WEB, RUN, first, event)
            for function in (least_late, most_late):
                refused(self, NoEvent, kept, function, WEB, RANGES, first, event)
            for function in (late_paper, early_paper, least_lates):
                refused(self, NoEvent, kept, function, WEB, RANGES, first, event, GREAT)
                refused(self, NoEvent, kept, function, WEB, RANGES, first, event, -GREAT)
            for thing in (None, (), ("p", "q"), [[]]):
                for function in (is_late_paper, is_early_paper):
                    refused(self, NoEvent, kept, function, WEB, RANGES, first, event, 0, thing)
        refused(self, NoEvent, {"event": "no"}, late_times, WEB, RUN, lates)
        for function in (sometimes_late, always_late):
            refused(self, NoEvent, {"event": "no"}, function, WEB, RANGES, lates)

    def test_cuts(self):
        for function in (fewest_cut, apart_ways):
            refused(self, NoEvent, {"event": "no"}, function, WEB, "no", "none")
            refused(self, NoEvent, {"event": "none"}, function, WEB, "a", "none")
            refused(self, NoEvent, {"event": "no"}, function, WEB, "no", "no")
            refused(self, Unfit, {}, function, WEB, "a", "a")
        for thing in (None, (), (("p", "q"),), [[]]):
            refused(self, NoEvent, {"event": "no"}, is_apart_ways, WEB, "no", "none", thing)
            refused(self, NoEvent, {"event": "none"}, is_apart_ways, WEB, "a", "none", thing)
            refused(self, Unfit, {}, is_apart_ways, WEB, "a", "a", thing)


if __name__ == "__main__":
    unittest.main()

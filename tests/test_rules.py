"""Point 20: rules of the pilot."""

import itertools
import random
import unittest

from slowship.errors import NoEvent, NoRange
from slowship.rules import (
    early_way, fewest_seen, is_early_way, is_right, is_rule, is_safe, is_tight, least_number, most_early, right_rule,
    spare_seen, tight_rule, told_by,
)
from tests.support import all_runs, judged, length_in, refused, slow, small_cases, subsets, time_in, told, ways_in

BAY = (("a", "f", "x"), (("u", "x", "a"), ("v", "a", "f"), ("w", "x", "f")))
WIDE = (("u", 3, 5), ("v", 2, 2), ("w", 1, 9))
NEAR = (("u", 3, 5), ("v", 2, 2), ("w", 1, 4))
GREAT = 10 ** 60


def plain_told(web, run, rule):
    return max(time_in(web, run, seen) + number for seen, number in rule)


def early_in(web, runs, event, rule):
    """By how much the EVENT happens behind what is told, in each of the RUNS."""
    return [time_in(web, run, event) - plain_told(web, run, rule) for run in runs]


def plain_early_ways(web, ranges, event, rule):
    rows = []
    for way in ways_in(web, event):
        run = slow(ranges, way)
        if length_in(run, way) > plain_told(web, run, rule):
            rows.append(way)
    return rows


def cases(seed, many):
    """WEBS and RANGES with an EVENT, and a RULE for it."""
    chance = random.Random(seed)
    for web, ranges in small_cases(seed, many, "pqrs", "abcd"):
        event = chance.choice([arc[2] for arc in web[1]])
        seen = sorted(chance.sample([other for other in web[0] if other != event], chance.randint(1, 3)))
        yield web, ranges, event, tuple([(other, chance.randint(-1, 4)) for other in seen])


class Rules(unittest.TestCase):
    def test_judged(self):
        bad = [(("f", 0),), (), (("a", 2), ("f", 1)), (("tide", 1),), (("x", 1), ("a", 1)), (("a", 1), ("a", 2)), (("u", 1),),
               (("a", 1, 2),), (("a",),), ("a", 2), (2, "a"), ((2, "a"),)]
        good = [(("a", 2),), (("a", 0),), (("x", 0),), (("a", -7), ("x", 3))]
        judged(self, is_rule, (BAY, "f"), good, bad)
        judged(self, is_rule, (BAY, "a"), [(("f", 0),), (("f", 1), ("x", 0))], [(("a", 2),), (("a", 0),), ()])
        self.assertIs(told(self, is_rule, BAY, "f", (("a", GREAT), ("x", -GREAT))), True)
        judged(self, is_rule, ((("f",), ()), "f"), [], [(), (("f", 1),), (("a", 1),)])

    def test_told_by(self):
        self.assertEqual(told(self, told_by, BAY, (("u", 4), ("v", 2), ("w", 9)), (("a", 2),)), 6)
        self.assertEqual(told(self, told_by, BAY, (("u", 4), ("v", 2), ("w", 9), ("z", 1)), (("a", 2), ("x", 7))), 7)
        self.assertEqual(told(self, told_by, BAY, (("u", 4), ("v", 2), ("w", 9)), (("a", -GREAT),)), 4 - GREAT)
        for web, ranges, _, rule in cases(1101, 20):
            for run in all_runs(ranges)[::15]:
                self.assertEqual(told(self, told_by, web, run, rule), plain_told(web, run, rule))


class SafeTight(unittest.TestCase):
    def test_told(self):
        self.assertIs(told(self, is_tight, BAY, WIDE, "f", (("a", 2),)), True)
        self.assertIs(told(self, is_safe, BAY, WIDE, "f", (("a", 2),)), False)
        self.assertIs(told(self, is_right, BAY, NEAR, "f", (("a", 2),)), True)
        self.assertEqual(told(self, most_early, BAY, WIDE, "f", (("a", 2),)), 4)
        self.assertEqual(told(self, most_early, BAY, NEAR, "f", (("a", 3),)), -1)
        self.assertIs(told(self, is_safe, BAY, WIDE, "f", (("a", 2), ("x", 9))), True)
        self.assertIs(told(self, is_tight, BAY, WIDE, "f", (("a", 2), ("x", 9))), False)
        self.assertIs(told(self, is_tight, BAY, WIDE, "f", (("x", 9),)), False)

    def test_far_numbers(self):
        self.assertIs(told(self, is_safe, BAY, WIDE, "f", (("a", GREAT),)), True)
        self.assertIs(told(self, is_tight, BAY, WIDE, "f", (("a", -GREAT),)), True)
        self.assertEqual(told(self, most_early, BAY, WIDE, "f", (("a", -GREAT),)), GREAT + 6)
        self.assertEqual(told(self, most_early, BAY, WIDE, "f", (("a", -GREAT), ("x", GREAT))), 9 - GREAT)
        self.assertEqual(told(self, most_early, BAY, WIDE, "f", (("a", -GREAT), ("x", -3))), 12)
        self.assertEqual(told(self, tight_rule, BAY, (("u", 3, 5), ("v", 2 ** 70, 2 ** 71), ("w", 0, 1)), "f", ("a",)), (("a", 2 ** 70),))
        # An EVENT from which none leads on, told by one behind it.
        self.assertEqual(told(self, most_early, BAY, WIDE, "x", (("f", -9),)), 4)
        self.assertIs(told(self, is_safe, BAY, WIDE, "x", (("f", -5),)), True)
        self.assertIs(told(self, is_safe, BAY, WIDE, "x", (("f", -6),)), False)
        self.assertEqual(told(self, early_way, BAY, WIDE, "x", (("f", -6),)), ())

    def test_by_trying(self):
        counts = {}
        for web, ranges, event, rule in cases(1102, 120):
            early = early_in(web, all_runs(ranges), event, rule)
            self.assertEqual(told(self, most_early, web, ranges, event, rule), max(early))
            safe, tight = max(early) <= 0, min(early) >= 0
            self.assertIs(told(self, is_safe, web, ranges, event, rule), safe)
            self.assertIs(told(self, is_tight, web, ranges, event, rule), tight)
            self.assertIs(told(self, is_right, web, ranges, event, rule), safe and tight)
            self.assertIs(tight, all(is_tight(web, ranges, event, (pair,)) for pair in rule))
            counts[safe, tight] = counts.get((safe, tight), 0) + 1
        self.assertEqual(len(counts), 4)


class EarlyWays(unittest.TestCase):
    def test_told(self):
        self.assertEqual(told(self, early_way, BAY, WIDE, "f", (("a", 2),)), ("w",))
        self.assertIsNone(told(self, early_way, BAY, NEAR, "f", (("a", 2),)))
        # The one with fewer ARCS, though it is not the least; of those with as many the least.
        self.assertEqual(told(self, early_way, BAY, WIDE, "f", (("a", -9),)), ("w",))
        fork = (("a", "b", "f", "x"), (("k", "x", "a"), ("l", "a", "f"), ("m", "x", "b"), ("n", "b", "f"), ("o", "x", "b")))
        still = tuple([(name, 1, 1) for name in "klmno"])
        self.assertEqual(told(self, early_way, fork, still, "f", (("x", 1),)), ("k", "l"))
        later = (("k", 0, 0), *still[1:])
        self.assertEqual(told(self, early_way, fork, later, "f", (("x", 1),)), ("m", "n"))

    def test_by_trying(self):
        sizes = set()
        for web, ranges, event, rule in cases(1103, 120):
            rows = plain_early_ways(web, ranges, event, rule)
            least = min(rows, key=lambda way: (len(way), way), default=None)
            self.assertEqual(told(self, early_way, web, ranges, event, rule), least)
            self.assertIs(is_safe(web, ranges, event, rule), rows == [])
            for way in ways_in(web, event):
                self.assertIs(is_early_way(web, ranges, event, rule, way), way in rows)
            sizes.add(0 if least is None else len(least))
        self.assertTrue({0, 1, 2} <= sizes)

    def test_judged(self):
        bad = [(), ("u",), ("v",), ("v", "u"), ("u", "v", "w"), ("a",), ("zz",), ("u told",), ("w", "w")]
        judged(self, is_early_way, (BAY, WIDE, "f", (("a", 2),)), [("w",)], [("u", "v"), *bad])
        judged(self, is_early_way, (BAY, WIDE, "f", (("a", 1),)), [("w",), ("u", "v")], bad)
        judged(self, is_early_way, (BAY, NEAR, "f", (("a", 2),)), [], [("w",), ("u", "v"), *bad])
        judged(self, is_early_way, (BAY, WIDE, "x", (("f", -6),)), [()], bad[1:])


class Numbers(unittest.TestCase):
    def test_told(self):
        self.assertEqual(told(self, least_number, BAY, WIDE, "f", (), "a"), 6)
        self.assertEqual(told(self, least_number, BAY, WIDE, "f", (("a", 2),), "x"), 9)
        self.assertIsNone(told(self, least_number, BAY, WIDE, "f", (("x", 9),), "a"))
        self.assertEqual(told(self, least_number, BAY, WIDE, "x", (), "f"), -5)
        self.assertEqual(told(self, least_number, BAY, WIDE, "f", (("a", -GREAT),), "x"), 9)
        self.assertEqual(told(self, spare_seen, BAY, WIDE, "f", (("a", 6), ("x", 9))), ("a", "x"))
        self.assertEqual(told(self, spare_seen, BAY, WIDE, "f", (("a", 2), ("x", 9))), ("a",))
        self.assertEqual(told(self, spare_seen, BAY, WIDE, "f", (("x", 9),)), ())
        self.assertEqual(told(self, spare_seen, BAY, WIDE, "f", (("a", 6), ("x", 2))), ("x",))

    def test_both_needed(self):
        # Each WAY is told by what is seen on it alone.
        fork = (("a", "b", "f"), (("k", "a", "f"), ("l", "b", "f")))
        web = (("a", "b", "f", "x"), (*fork[1], ("m", "x", "a"), ("n", "x", "b")))
        ranges = (("k", 1, 2), ("l", 1, 3), ("m", 0, 9), ("n", 0, 9))
        self.assertEqual(told(self, spare_seen, web, ranges, "f", (("a", 2), ("b", 3))), ())
        self.assertEqual(told(self, least_number, web, ranges, "f", (("a", 2),), "b"), 3)
        self.assertEqual(told(self, least_number, web, ranges, "f", (("b", 3),), "a"), 2)

    def test_by_trying(self):
        nones = 0
        for web, ranges, event, rule in cases(1104, 80):
            runs = all_runs(ranges)
            for seen, _ in rule:
                rest = tuple([pair for pair in rule if pair[0] != seen])
                least = told(self, least_number, web, ranges, event, rest, seen)
                if least is None:
                    self.assertTrue(rest and max(early_in(web, runs, event, rest)) <= 0)
                    nones += 1
                    continue
                for number, safe in ((least, True), (least - 1, False)):
                    late = max(early_in(web, runs, event, (*rest, (seen, number))))
                    self.assertIs(late <= 0, safe)
            safe_rule = tuple([(seen, number + max(0, most_early(web, ranges, event, rule))) for seen, number in rule])
            spare = []
            for pair in safe_rule:
                rest = tuple([other for other in safe_rule if other != pair])
                spare.extend([pair[0]] if rest and max(early_in(web, runs, event, rest)) <= 0 else [])
            self.assertEqual(told(self, spare_seen, web, ranges, event, safe_rule), tuple(spare))
        self.assertGreater(nones, 10)


class TightRules(unittest.TestCase):
    def test_told(self):
        self.assertEqual(told(self, tight_rule, BAY, WIDE, "f", ("a", "x")), (("a", 2), ("x", 5)))
        self.assertIsNone(told(self, right_rule, BAY, WIDE, "f", ("a", "x")))
        self.assertEqual(told(self, right_rule, BAY, NEAR, "f", ("a", "x")), (("a", 2), ("x", 5)))
        self.assertEqual(told(self, fewest_seen, BAY, NEAR, "f", ("a", "x")), ("a",))
        self.assertIsNone(told(self, fewest_seen, BAY, NEAR, "f", ("x",)))
        self.assertIsNone(told(self, fewest_seen, BAY, WIDE, "f", ("a", "x")))
        self.assertEqual(told(self, tight_rule, BAY, WIDE, "x", ("a", "f")), (("a", -5), ("f", -9)))

    def test_by_trying(self):
        counts = [0, 0, 0, 0]
        for web, ranges, event, _ in cases(1105, 120):
            # What leads into the EVENT takes as long as it takes: so that it can be told by what is ahead of it.
            into = [arc[0] for arc in web[1] if arc[2] == event]
            ranges = tuple([(name, low, low) if name in into else (name, low, high) for name, low, high in ranges])
            runs = all_runs(ranges)
            others = [other for other in web[0] if other != event]
            right = {}
            for some in subsets(others)[1:]:
                best = tuple([(seen, min(time_in(web, run, event) - time_in(web, run, seen) for run in runs)) for seen in some])
                self.assertEqual(told(self, tight_rule, web, ranges, event, some), best)
                right[some] = best if max(early_in(web, runs, event, best)) <= 0 else None
                self.assertEqual(told(self, right_rule, web, ranges, event, some), right[some])
            for some in right:
                good = [part for part in right if set(part) <= set(some) and right[part] is not None]
                least = min(good, key=lambda part: (len(part), part), default=None)
                self.assertEqual(told(self, fewest_seen, web, ranges, event, some), least)
                counts[0 if least is None else len(least)] += 1
        self.assertGreater(min(counts[:2]), 10)
        self.assertGreater(counts[2], 1)

    def test_no_other_rule_is_right(self):
        for web, ranges, event, rule in cases(1106, 25):
            some = tuple([seen for seen, _ in rule])
            right = right_rule(web, ranges, event, some)
            for numbers in itertools.product(range(-4, 7), repeat=min(len(some), 2)):
                other = tuple(zip(some, numbers))
                if len(other) == len(some) and is_right(web, ranges, event, other):
                    self.assertIsNotNone(right)
                    self.assertTrue(all(number <= most for (_, number), (_, most) in zip(other, right)))

    def test_six_seen(self):
        # The EVENT is behind each of six that happen at moments of their own.
        seen = tuple("abcdeg")
        web = tuple(sorted([*seen, "f", "x"])), tuple(sorted([("k" + one, "x", one) for one in seen] + [("m" + one, one, "f") for one in seen]))
        ranges = tuple([(name, 0, 5) if name[0] == "k" else (name, 2, 2) for name, _, _ in web[1]])
        self.assertEqual(told(self, fewest_seen, web, ranges, "f", seen), seen)
        self.assertIsNone(told(self, fewest_seen, web, ranges, "f", seen[1:]))
        self.assertEqual(told(self, right_rule, web, ranges, "f", seen), tuple([(one, 2) for one in seen]))


class Wrong(unittest.TestCase):
    def test_no_range(self):
        lack, kept, rule = WIDE[:1] + WIDE[2:], {"name": "v"}, (("none", 1),)
        refused(self, NoRange, kept, told_by, BAY, (("u", 4), ("w", 9)), rule)
        for function in (is_safe, is_tight, is_right, most_early, early_way, spare_seen):
            refused(self, NoRange, kept, function, BAY, lack, "no", rule)
            refused(self, NoRange, {"name": "u"}, function, BAY, (), "no", rule)
        for function in (tight_rule, right_rule, fewest_seen):
            refused(self, NoRange, kept, function, BAY, lack, "no", ("none",))
        refused(self, NoRange, kept, least_number, BAY, lack, "no", rule, "nor")
        for thing in (None, (), ("w",), [[]]):
            refused(self, NoRange, kept, is_early_way, BAY, lack, "no", rule, thing)

    def test_no_event(self):
        for event, seen, kept in (("no", "none", "no"), ("f", "none", "none"), ("u", "a", "u"), ("no", "a", "no")):
            kept, rule = {"event": kept}, (("a", 1), (seen, 2)) if seen != "a" else (("a", 1),)
            for function in (is_safe, is_tight, is_right, most_early, early_way, spare_seen):
                refused(self, NoEvent, kept, function, BAY, WIDE, event, rule)
            for function in (tight_rule, right_rule, fewest_seen):
                refused(self, NoEvent, kept, function, BAY, WIDE, event, tuple([other for other, _ in rule]))
            refused(self, NoEvent, kept, least_number, BAY, WIDE, event, rule, "nor")
            refused(self, NoEvent, kept, least_number, BAY, WIDE, event, (), seen)
            for thing in (None, (), ("w",), [[]]):
                refused(self, NoEvent, kept, is_early_way, BAY, WIDE, event, rule, thing)
        refused(self, NoEvent, {"event": "tide"}, told_by, BAY, (("u", 4), ("v", 2), ("w", 9)), (("a", 1), ("tide", 2)))
        refused(self, NoEvent, {"event": "nor"}, least_number, BAY, WIDE, "f", (("a", 2),), "nor")
        refused(self, NoEvent, {"event": "nor"}, least_number, BAY, WIDE, "f", (("x", 9),), "nor")
        for thing in (None, (), (("a", 2),), [[]]):
            refused(self, NoEvent, {"event": "no"}, is_rule, BAY, "no", thing)
        refused(self, NoEvent, {"event": "tide"}, spare_seen, BAY, WIDE, "f", (("tide", 3),))


if __name__ == "__main__":
    unittest.main()

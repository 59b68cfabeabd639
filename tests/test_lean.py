"""Point 10: waits that are not needed."""

import random
import unittest

from slowship.errors import NoArc, NoEvent, NoRange
from slowship.lean import (
    can_go, deciding_way, decides, enough_sets, fewest_into, held_by, is_deciding_way, is_lean, is_needing_run,
    lean_web, needing_run, needless, pairs_apart,
)
from tests.support import (
    all_runs, end_runs, judged, refused, slow, small_cases, some_ranges, some_web, subsets, time_in, told, ways_in,
)
from tests.test_edits import BOTH, HOURS
from tests.test_same import BARE, PLAN, RANGES
from tests.test_webs import EMPTY

GREAT = 10 ** 60
STILL = tuple([(name, 0, 0) for name in "abcde"])
FORK = (("p", "q", "v", "w"), (("a", "p", "v"), ("b", "q", "v"), ("c", "w", "v"), ("d", "p", "w"), ("e", "q", "w")))
# Six ARCS into one EVENT, from EVENTS without ARCS into them.
STAR = (tuple("abcdefv"), tuple([(name, event, "v") for name, event in zip("klmnop", "abcdef")]))
STAR_RANGES = (("k", 1, 4), ("l", 2, 4), ("m", 0, 3), ("n", 3, 3), ("o", 0, 5), ("p", 0, 2))


def left_out(web, some):
    return web[0], tuple([arc for arc in web[1] if arc[0] not in some])


def all_times(web, run):
    return [time_in(web, run, event) for event in web[0]]


def is_needed(web, run, some):
    """Whether some EVENT happens earlier in the RUN without all of these ARCS."""
    return all_times(web, run) != all_times(left_out(web, some), run)


def arc_named(web, name):
    return [arc for arc in web[1] if arc[0] == name][0]


def is_behind_all(web, run, some, name):
    """Whether this ARC is, in the WEB as it is, behind all those into its EVENT that stay, and behind 0."""
    _, ahead, event = arc_named(web, name)
    lengths = dict(run)
    others = [time_in(web, run, one) + lengths[other] for other, one, behind in web[1]
              if behind == event and other not in some]
    return time_in(web, run, ahead) + lengths[name] > max([0, *others])


def plain_cases(seed, many):
    """WEBS where many ARCS lead to one EVENT, and lengths are often alike."""
    chance = random.Random(seed)
    for _ in range(many):
        web = some_web(chance, "pqrstu", ("a", "b", "c", "d"))
        yield web, some_ranges(chance, "pqrstuz", chance.choice((0, 0, 1)))


class Deciding(unittest.TestCase):
    def test_told(self):
        run = (("crane", 1), ("sail", 5), ("tide", 6))
        self.assertIs(told(self, decides, PLAN, run, "crane"), False)
        self.assertIs(told(self, decides, PLAN, run, "tide"), False)
        self.assertIs(told(self, decides, PLAN, run, "sail"), True)
        self.assertIs(told(self, decides, PLAN, (("crane", 0), ("sail", 5), ("tide", 6)), "tide"), True)
        self.assertIs(told(self, decides, PLAN, (("crane", 2), ("sail", 5), ("tide", 6)), "crane"), True)
        self.assertEqual(told(self, needless, PLAN, RANGES), ("tide",))
        self.assertIs(told(self, deciding_way, PLAN, RANGES, "tide"), None)
        self.assertEqual(told(self, deciding_way, PLAN, RANGES, "crane"), ("sail", "crane"))

    def test_edges(self):
        self.assertEqual(told(self, needless, EMPTY, ()), ())
        self.assertEqual(told(self, needless, FORK, STILL), tuple("abcde"))
        self.assertIs(told(self, decides, FORK, tuple([(name, 0) for name in "abcde"]), "a"), False)
        one = (("a", "b"), (("x", "a", "b"),))
        self.assertEqual(told(self, needless, one, (("x", 0, 0),)), ("x",))
        self.assertEqual(told(self, needless, one, (("x", 0, 1),)), ())
        self.assertIs(told(self, decides, one, (("x", 0),), "x"), False)
        self.assertIs(told(self, decides, one, (("x", 1),), "x"), True)
        self.assertEqual(told(self, deciding_way, one, (("x", 0, 1),), "x"), ("x",))

    def test_great_numbers(self):
        two = (("a", "b"), (("x", "a", "b"), ("y", "a", "b")))
        self.assertEqual(told(self, needless, two, (("x", 0, GREAT), ("y", GREAT, GREAT + 1))), ("x",))
        self.assertEqual(told(self, needless, two, (("x", 0, GREAT + 1), ("y", GREAT, GREAT + 1))), ())
        self.assertEqual(told(self, deciding_way, two, (("x", 0, 2 ** 65), ("y", 2 ** 65 - 1, GREAT)), "x"), ("x",))

    def test_decides_by_trying(self):
        for web, ranges in small_cases(101, 15):
            for run in end_runs(ranges):
                for name, _, event in web[1]:
                    earlier = time_in(left_out(web, (name,)), run, event) < time_in(web, run, event)
                    self.assertIs(decides(web, run, name), earlier)

    def test_ways_by_trying(self):
        for web, ranges in plain_cases(102, 25):
            runs = all_runs(ranges)
            free = tuple([arc[0] for arc in web[1] if not any(is_needed(web, run, (arc[0],)) for run in runs)])
            self.assertEqual(told(self, needless, web, ranges), free)
            self.assertIs(told(self, is_lean, web, ranges), free == ())
            for name, _, event in web[1]:
                ways = [way for event in web[0] for way in ways_in(web, event)]
                good = [way for way in ways_in(web, event)
                        if way[-1] == name and is_needed(web, slow(ranges, way), (name,))]
                for way in ways:
                    self.assertIs(is_deciding_way(web, ranges, name, way), way in good)
                self.assertEqual(good == [], name in free)
                way = told(self, deciding_way, web, ranges, name)
                self.assertIs(way is None, name in free)
                self.assertTrue(way is None or way in good)

    def test_judged(self):
        bad = [("crane",), ("tide",), (), ("sail",), ("sail", "crane", "crane"), ("wind",), (("sail", "crane"),)]
        judged(self, is_deciding_way, (PLAN, RANGES, "crane"), [("sail", "crane")], bad)
        judged(self, is_deciding_way, (PLAN, RANGES, "tide"), [], [("tide",), ("sail", "crane")])
        judged(self, is_deciding_way, (PLAN, RANGES, "sail"), [("sail",)], [("sail", "crane"), ("crane",)])
        # The ARC decides, though another WAY to where it begins is longer in the slow RUN of this one.
        web = (("a", "b", "c"), (("p", "a", "b"), ("q", "a", "b"), ("r", "b", "c")))
        judged(self, is_deciding_way, (web, (("p", 0, 1), ("q", 5, 6), ("r", 1, 1)), "r"), [("p", "r"), ("q", "r")])


class Going(unittest.TestCase):
    def test_told(self):
        self.assertIs(told(self, can_go, BOTH, HOURS, ("x",)), True)
        self.assertIs(told(self, can_go, BOTH, HOURS, ("z",)), True)
        self.assertIs(told(self, can_go, BOTH, HOURS, ("x", "z")), False)
        self.assertEqual(told(self, held_by, BOTH, HOURS, ("x", "z")), ("v", "x"))
        self.assertIs(told(self, held_by, BOTH, HOURS, ("x",)), None)
        self.assertEqual(told(self, pairs_apart, BOTH, HOURS), [("x", "z")])
        self.assertEqual(told(self, needing_run, BOTH, HOURS, ("x", "z")), (("x", 2), ("y", 1), ("z", 1)))
        self.assertIs(told(self, needing_run, BOTH, HOURS, ("z",)), None)
        # Only if sailing takes long, too, the crane is behind the tide.
        near = (("crane", 1, 3), ("sail", 0, 9), ("tide", 9, 9))
        run = told(self, needing_run, PLAN, near, ("crane",))
        self.assertTrue(is_needed(PLAN, run, ("crane",)))
        self.assertIs(told(self, needing_run, PLAN, (("crane", 1, 3), ("sail", 0, 6), ("tide", 9, 9)), ("crane",)), None)

    def test_edges(self):
        for web, ranges in ((EMPTY, ()), (PLAN, RANGES), (FORK, STILL)):
            self.assertIs(told(self, can_go, web, ranges, ()), True)
            self.assertIs(told(self, held_by, web, ranges, ()), None)
            self.assertIs(told(self, needing_run, web, ranges, ()), None)
            self.assertEqual(told(self, pairs_apart, web, ranges), [])
        self.assertIs(told(self, can_go, FORK, STILL, tuple("abcde")), True)
        # The least EVENT comes first, whatever the names of the ARCS are.
        web = (("a", "b", "o"), (("x", "o", "b"), ("y", "o", "a")))
        self.assertEqual(told(self, held_by, web, (("x", 1, 1), ("y", 1, 1)), ("x", "y")), ("a", "y"))

    def test_great_numbers(self):
        ranges = (("k", 0, GREAT), ("l", GREAT, GREAT), ("m", 0, 2 ** 65), ("n", 0, 0), ("o", 0, 0), ("p", 0, 0))
        self.assertIs(told(self, can_go, STAR, ranges, ("k", "m", "n", "o", "p")), True)
        self.assertEqual(told(self, held_by, STAR, ranges, ("k", "l")), ("v", "k"))
        self.assertEqual(told(self, held_by, STAR, ranges, ("l", "m")), ("v", "l"))

    def test_by_trying(self):
        for web, ranges in plain_cases(103, 12):
            runs = all_runs(ranges)
            for some in subsets([arc[0] for arc in web[1]]):
                needed = any(is_needed(web, run, some) for run in runs)
                holding = sorted([(arc_named(web, name)[2], name) for name in some
                                  if any(is_behind_all(web, run, some, name) for run in runs)])
                self.assertIs(told(self, can_go, web, ranges, some), not needed)
                self.assertEqual(told(self, held_by, web, ranges, some), holding[0] if holding else None)
                run = told(self, needing_run, web, ranges, some)
                self.assertIs(run is None, not needed)
                self.assertTrue(run is None or is_needed(web, run, some))

    def test_pairs_by_trying(self):
        apart = 0
        for web, ranges in plain_cases(104, 100):
            runs = all_runs(ranges)
            names = [arc[0] for arc in web[1]]
            free = [name for name in names if not any(is_needed(web, run, (name,)) for run in runs)]
            pairs = [(one, other) for one in free for other in free if one < other]
            pairs = [pair for pair in pairs if any(is_needed(web, run, pair) for run in runs)]
            self.assertEqual(told(self, pairs_apart, web, ranges), pairs)
            apart += len(pairs)
        self.assertGreater(apart, 20)

    def test_runs_judged(self):
        for web, ranges in plain_cases(105, 4):
            for some in subsets([arc[0] for arc in web[1]])[::5]:
                for run in all_runs(ranges):
                    self.assertIs(is_needing_run(web, ranges, some, run), is_needed(web, run, some))
        run = (("x", 2), ("y", 1), ("z", 1))
        bad = [run[:2], run[::-1], (("x", 3), *run[1:]), (*run, ("zz", 0)), (("x", 1), *run[1:])]
        judged(self, is_needing_run, (BOTH, HOURS, ("x", "z")), [run], bad)
        judged(self, is_needing_run, (BOTH, HOURS, ("x",)), [], [run])
        wide = (("x", 2, 9), ("y", 1, 9), ("z", 1, 1))
        judged(self, is_needing_run, (BOTH, wide, ("x",)), [(("x", 3), ("y", 1), ("z", 1))], [run])
        judged(self, is_needing_run, (BOTH, HOURS, ()), [], [run, ()])

    def test_narrower(self):
        for web, ranges in plain_cases(106, 30):
            narrow = tuple([(name, low, low) for name, low, _ in ranges])
            for some in subsets([arc[0] for arc in web[1]])[::3]:
                self.assertTrue(not can_go(web, ranges, some) or can_go(web, narrow, some))


class Enough(unittest.TestCase):
    def test_told(self):
        self.assertEqual(told(self, enough_sets, BOTH, HOURS, "v"), [("x",), ("x", "z"), ("z",)])
        self.assertEqual(told(self, fewest_into, BOTH, HOURS, "v"), ("x",))
        self.assertEqual(told(self, fewest_into, FORK, STILL, "v"), ())
        self.assertEqual(told(self, lean_web, PLAN, RANGES), BARE)
        self.assertEqual(told(self, lean_web, FORK, STILL), (FORK[0], ()))
        self.assertIs(told(self, is_lean, BARE, RANGES), True)
        self.assertIs(told(self, is_lean, PLAN, RANGES), False)
        self.assertIs(told(self, is_lean, BOTH, HOURS), False)

    def test_edges(self):
        self.assertEqual(told(self, enough_sets, BOTH, HOURS, "p"), [()])
        self.assertEqual(told(self, fewest_into, BOTH, HOURS, "p"), ())
        self.assertEqual(told(self, lean_web, EMPTY, ()), EMPTY)
        self.assertIs(told(self, is_lean, EMPTY, STILL), True)
        self.assertEqual(len(told(self, enough_sets, FORK, STILL, "v")), 8)

    def test_six_arcs(self):
        names = tuple("klmnop")
        runs = [(run, dict(run)) for run in all_runs(STAR_RANGES)]
        # Nothing leads on here: so the lengths themselves tell what decides.
        good = [kept for kept in subsets(names)
                if all(max([0, *[row[name] for name in kept]]) == max(row.values()) for _, row in runs)]
        self.assertEqual(told(self, enough_sets, STAR, STAR_RANGES, "v"), good)
        self.assertEqual(told(self, fewest_into, STAR, STAR_RANGES, "v"), ("k", "l", "n", "o"))
        self.assertEqual(told(self, needless, STAR, STAR_RANGES), ("m", "p"))
        fixed = tuple([(name, 7, 7) for name in names])
        self.assertEqual(told(self, fewest_into, STAR, fixed, "v"), ("k",))
        self.assertEqual(len(told(self, enough_sets, STAR, fixed, "v")), 63)
        self.assertEqual(len(told(self, pairs_apart, STAR, fixed)), 0)

    def test_by_trying(self):
        for web, ranges in plain_cases(107, 25):
            runs = all_runs(ranges)
            kept = []
            for event in web[0]:
                into = [arc[0] for arc in web[1] if arc[2] == event]
                good = [some for some in subsets(into)
                        if not any(is_needed(web, run, set(into) - set(some)) for run in runs)]
                least = min(good, key=lambda some: (len(some), some))
                self.assertEqual(told(self, enough_sets, web, ranges, event), good)
                self.assertEqual(told(self, fewest_into, web, ranges, event), least)
                kept.extend(least)
            lean = told(self, lean_web, web, ranges)
            self.assertEqual(lean, (web[0], tuple([arc for arc in web[1] if arc[0] in kept])))
            self.assertFalse(any(all_times(web, run) != all_times(lean, run) for run in runs))


class Wrong(unittest.TestCase):
    def test_no_range(self):
        lack = (("crane", 1, 3), ("sail", 5, 9))
        run = (("crane", 1), ("sail", 5))
        refused(self, NoRange, {"name": "tide"}, decides, PLAN, run, "wind")
        refused(self, NoRange, {"name": "crane"}, decides, PLAN, (), "wind")
        for function in (needless, pairs_apart, lean_web, is_lean):
            refused(self, NoRange, {"name": "tide"}, function, PLAN, lack)
            refused(self, NoRange, {"name": "crane"}, function, PLAN, ())
        refused(self, NoRange, {"name": "tide"}, deciding_way, PLAN, lack, "wind")
        for function in (can_go, held_by, needing_run):
            refused(self, NoRange, {"name": "tide"}, function, PLAN, lack, ("wind",))
        for function in (enough_sets, fewest_into):
            refused(self, NoRange, {"name": "tide"}, function, PLAN, lack, "home")
        for thing in ((), ("sail", "crane"), None):
            refused(self, NoRange, {"name": "tide"}, is_deciding_way, PLAN, lack, "wind", thing)
            refused(self, NoRange, {"name": "tide"}, is_needing_run, PLAN, lack, ("wind",), thing)

    def test_no_arc(self):
        run = (("crane", 1), ("sail", 5), ("tide", 6))
        for name in ("wind", "", "A b", "go", "crane sail", "pilot"):
            kept = {"name": name}
            refused(self, NoArc, kept, decides, PLAN, run, name)
            refused(self, NoArc, kept, deciding_way, PLAN, RANGES, name)
            for thing in ((), ("sail", "crane"), None, [["a"]]):
                refused(self, NoArc, kept, is_deciding_way, PLAN, RANGES, name, thing)
        for some, name in ((("", "crane"), ""), (("crane", "wind"), "wind"), (("A", "wind"), "A"),
                           (("pilot",), "pilot")):
            for function in (can_go, held_by, needing_run):
                refused(self, NoArc, {"name": name}, function, PLAN, RANGES, some)
            for thing in ((), None, run):
                refused(self, NoArc, {"name": name}, is_needing_run, PLAN, RANGES, some, thing)

    def test_no_event(self):
        for function in (enough_sets, fewest_into):
            refused(self, NoEvent, {"event": "home"}, function, PLAN, RANGES, "home")
            refused(self, NoEvent, {"event": "crane"}, function, PLAN, RANGES, "crane")


if __name__ == "__main__":
    unittest.main()

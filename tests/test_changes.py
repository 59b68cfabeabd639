"""Point 15: waits that make changes sure."""

import itertools
import unittest

from slowship.cargo import sure_changes
from slowship.changes import (
    all_waits, fewest_waits, is_undone_paper, is_wait_ring, journey_waits, moved_by, sure_by_waits, undone_paper,
    wait_ring, with_waits,
)
from slowship.errors import NoArc, NoEvent, NoRange, Ring
from slowship.webs import is_ranges, is_web
from tests.support import all_runs, in_rows, judged, refused, slow, subsets, time_in, told, ways_in
from tests.test_cargo import BACK, CARGO, NONE, RANGES, RIDES, STRANGE, WEB, cases, missed_in, plain_journeys, plain_sure
from tests.test_webs import EMPTY

GREAT = 10 ** 60
ALL = ("x", "y", "z")


def plainly_with(web, ranges, cargo, waits):
    """The WEB with waits, which maybe has a ring, and its RANGES."""
    rides = {ride[0]: ride for ride in cargo[0]}
    rows = [row for row in cargo[1] if row[0] in waits]
    arcs = [(name, rides[one][2], rides[other][1]) for name, one, other, _ in rows]
    more = [(name, minutes, minutes) for name, _, _, minutes in rows]
    return (web[0], tuple(sorted([*web[1], *arcs]))), tuple(sorted([*ranges, *more]))


def plainly_do(web, ranges, cargo, some, waits):
    """Whether each CHANGE of some is sure in the WEB with waits."""
    return set(some) <= set(plain_sure(*plainly_with(web, ranges, cargo, waits), cargo))


def closed_rows(arcs, most):
    """All rows of at most so many names, none twice, each ARC leading to where the next one begins, and so on."""
    ends = {name: pair for name, *pair in arcs}
    rows = itertools.chain(*[itertools.permutations(ends, many) for many in range(1, most + 1)])
    return [row for row in rows if all(ends[one][1] == ends[other][0] for one, other in zip(row, (*row[1:], row[0])))]


def standing(seed, many, changes):
    """As cases of CARGOS, with all sets of waits with which no ARCS lead back."""
    for web, ranges, cargo in cases(seed, many, changes):
        names = [row[0] for row in cargo[1]]
        sets = [some for some in subsets(names) if in_rows(plainly_with(web, ranges, cargo, some)[0][1])]
        yield web, ranges, cargo, sets


class Waiting(unittest.TestCase):
    def test_told(self):
        changed, wide = told(self, with_waits, WEB, RANGES, CARGO, ("x",))
        self.assertEqual(changed, (WEB[0], (*WEB[1], ("x", "oc", "rg"))))
        self.assertEqual(wide, (*RANGES, ("x", 2, 2)))
        self.assertEqual(told(self, with_waits, WEB, RANGES, CARGO, ()), (WEB, RANGES))
        self.assertEqual(told(self, with_waits, WEB, RANGES, CARGO, ("x", "y"))[0][1][5:],
                         (("x", "oc", "rg"), ("y", "rc", "yg")))
        self.assertEqual(told(self, with_waits, EMPTY, (), ((), ()), ()), (EMPTY, ()))
        first = (RIDES, (("a", "ox", "ray", GREAT),))
        self.assertEqual(told(self, with_waits, WEB, RANGES, first, ("a",))[1][0], ("a", GREAT, GREAT))
        self.assertEqual(told(self, with_waits, WEB, RANGES, first, ("a",))[0][1][0], ("a", "oc", "rg"))

    def test_by_trying(self):
        rings = 0
        for web, ranges, cargo in cases(601, 25, 5):
            for some in subsets([row[0] for row in cargo[1]]):
                changed, wide = plainly_with(web, ranges, cargo, some)
                if in_rows(changed[1]):
                    self.assertEqual(with_waits(web, ranges, cargo, some), (changed, wide))
                    self.assertTrue(is_web(changed) and is_ranges(wide))
                else:
                    refused(self, Ring, {}, with_waits, web, ranges, cargo, some)
                    rings += 1
        self.assertGreater(rings, 30)

    def test_sure(self):
        self.assertEqual(told(self, sure_by_waits, WEB, RANGES, CARGO, ("x",)), ("x",))
        self.assertEqual(told(self, sure_by_waits, WEB, RANGES, CARGO, ()), ("y",))
        self.assertEqual(told(self, sure_by_waits, WEB, RANGES, CARGO, ("x", "y")), ("x", "y"))
        self.assertEqual(told(self, sure_by_waits, WEB, RANGES, NONE, ()), ())
        for web, ranges, cargo, sets in standing(602, 12, 4):
            for waits in sets:
                sure = plain_sure(*plainly_with(web, ranges, cargo, waits), cargo)
                self.assertEqual(told(self, sure_by_waits, web, ranges, cargo, waits), sure)
                self.assertTrue(set(waits) <= set(sure))
            self.assertEqual(sure_by_waits(web, ranges, cargo, ()), sure_changes(web, ranges, cargo))


class Rings(unittest.TestCase):
    def test_told(self):
        self.assertIs(told(self, wait_ring, WEB, CARGO, ("x", "y")), None)
        self.assertIs(told(self, wait_ring, WEB, CARGO, ()), None)
        self.assertIs(told(self, wait_ring, WEB, BACK, ("x", "y")), None)
        self.assertEqual(sorted(told(self, wait_ring, WEB, BACK, ALL)), ["p", "q", "r", "x", "y", "z"])
        self.assertIs(told(self, wait_ring, EMPTY, ((), ()), ()), None)

    def test_judged(self):
        ring = ("q", "y", "r", "z", "p", "x")
        bad = [(), ring[:5], ring[::-1], (*ring, "q"), (*ring, *ring), ("q", "y"), ("b", *ring), ("zz",), ("x",)]
        judged(self, is_wait_ring, (WEB, BACK, ALL), [ring, ring[2:] + ring[:2]], bad)
        judged(self, is_wait_ring, (WEB, BACK, ("x", "y")), [], [ring, *bad])
        judged(self, is_wait_ring, (WEB, NONE, ()), [], [ring, *bad])

    def test_by_trying(self):
        found = 0
        for web, ranges, cargo in cases(603, 60, 4):
            if len(web[1]) > 6:
                continue
            for some in subsets([row[0] for row in cargo[1]])[::2]:
                arcs = plainly_with(web, ranges, cargo, some)[0][1]
                ring = told(self, wait_ring, web, cargo, some)
                self.assertIs(ring is None, in_rows(arcs))
                if ring is not None:
                    self.assertIs(is_wait_ring(web, cargo, some, ring), True)
                    self.assertEqual(len(set(ring)), len(ring))
                    ends = {name: pair for name, *pair in arcs}
                    pairs = zip(ring, (*ring[1:], ring[0]))
                    self.assertTrue(all(ends[one][1] == ends[other][0] for one, other in pairs))
                    found += 1
        self.assertGreater(found, 20)

    def test_rows_by_trying(self):
        # An EVENT twice is fine, a name twice is not.
        web = (("ac", "ag", "bc", "bg", "m"), (("k", "ag", "m"), ("l", "bg", "m"), ("n", "m", "ac"), ("o", "m", "bc")))
        cargo = ((("a", "ag", "ac"), ("b", "bg", "bc")), (("x", "a", "b", 0), ("y", "b", "a", 0)))
        arcs = plainly_with(web, (), cargo, ("x", "y"))[0][1]
        good = closed_rows(arcs, 6)
        self.assertEqual(max(len(row) for row in good), 6)
        for many in range(7):
            for row in itertools.permutations("klnoxy", many):
                self.assertIs(is_wait_ring(web, cargo, ("x", "y"), row), row in good)


class Doing(unittest.TestCase):
    def test_told(self):
        self.assertEqual(told(self, undone_paper, WEB, RANGES, CARGO, ("x", "y"), ("x",)), ("y", ("p", "x", "q")))
        self.assertIs(told(self, undone_paper, WEB, RANGES, CARGO, ("x", "y"), ("x", "y")), None)
        self.assertIs(told(self, undone_paper, WEB, RANGES, CARGO, ("y",), ()), None)
        self.assertIs(told(self, undone_paper, WEB, RANGES, CARGO, (), ("x",)), None)
        self.assertEqual(told(self, undone_paper, WEB, RANGES, CARGO, ("x",), ("y",)), ("x", ("p",)))

    def test_judged(self):
        paper = ("y", ("p", "x", "q"))
        bad = [("x", ("p", "x", "q")), ("y", ("b", "q")), ("x", ("p",)), ("y", ()), ("y", ("q",)), ("z", ("p",)), ("y",),
               ("y", ("p", "x", "q"), ()), ("p", ("p",))]
        judged(self, is_undone_paper, (WEB, RANGES, CARGO, ("x", "y"), ("x",)), [paper], bad)
        judged(self, is_undone_paper, (WEB, RANGES, CARGO, ("x",), ("x",)), [], [paper, *bad])
        judged(self, is_undone_paper, (WEB, RANGES, CARGO, (), ()), [], [paper, *bad])
        judged(self, is_undone_paper, (WEB, RANGES, CARGO, ("x", "y"), ()), [("x", ("p",))], [paper, ("y", ("b", "q"))])

    def test_by_trying(self):
        undone = 0
        for web, ranges, cargo, sets in standing(604, 12, 3):
            rides = {ride[0]: ride for ride in cargo[0]}
            for waits in sets:
                changed, wide = plainly_with(web, ranges, cargo, waits)
                for some in subsets([row[0] for row in cargo[1]]):
                    good = []
                    for name, one, _, _ in cargo[1]:
                        for way in ways_in(changed, rides[one][2]):
                            fine = name in some and missed_in(changed, slow(wide, way), cargo, name) > 0
                            good.extend([(name, way)] if fine else [])
                            thing = (name, way)
                            self.assertIs(is_undone_paper(web, ranges, cargo, some, waits, thing), fine)
                    paper = told(self, undone_paper, web, ranges, cargo, some, waits)
                    self.assertTrue(paper in good if good else paper is None)
                    self.assertIs(paper is None, plainly_do(web, ranges, cargo, some, waits))
                    undone += paper is not None
        self.assertGreater(undone, 60)


class Sets(unittest.TestCase):
    def test_told(self):
        self.assertEqual(told(self, all_waits, WEB, RANGES, CARGO, ("x", "y")), [("x", "y")])
        self.assertEqual(told(self, all_waits, WEB, RANGES, CARGO, ("y",)), [(), ("y",)])
        self.assertEqual(told(self, all_waits, WEB, RANGES, CARGO, ("x",)), [("x",)])
        self.assertEqual(told(self, fewest_waits, WEB, RANGES, CARGO, ("y",)), ())
        self.assertEqual(told(self, fewest_waits, WEB, RANGES, CARGO, ("x", "y")), ("x", "y"))
        self.assertEqual(told(self, journey_waits, WEB, RANGES, CARGO, ("ox", "ray", "yak")), ("x", "y"))
        self.assertEqual(told(self, journey_waits, WEB, RANGES, CARGO, ("ray", "yak")), ())
        self.assertEqual(told(self, journey_waits, WEB, RANGES, CARGO, ("ox", "ray")), ("x",))
        self.assertEqual(told(self, journey_waits, WEB, RANGES, BACK, ("ray", "yak", "ox")), ("z",))

    def test_edges(self):
        for cargo in (CARGO, NONE, BACK):
            self.assertEqual(told(self, all_waits, WEB, RANGES, cargo, ()), [()])
            self.assertEqual(told(self, fewest_waits, WEB, RANGES, cargo, ()), ())
            self.assertEqual(told(self, journey_waits, WEB, RANGES, cargo, ("yak",)), ())

    def test_by_trying(self):
        sizes = {}
        for web, ranges, cargo, sets in standing(605, 45, 4):
            for some in sets:
                good = [waits for waits in subsets(some) if plainly_do(web, ranges, cargo, some, waits)]
                self.assertEqual(told(self, all_waits, web, ranges, cargo, some), good)
                fewest = min(good, key=lambda waits: (len(waits), waits))
                self.assertEqual(told(self, fewest_waits, web, ranges, cargo, some), fewest)
                sizes[len(good)] = sizes.get(len(good), 0) + 1
            journeys = plain_journeys(cargo, [row[0] for row in cargo[1]])
            for journey in journeys:
                pairs = list(zip(journey, journey[1:]))
                some = tuple([row[0] for row in cargo[1] if row[1:3] in pairs])
                if some in sets:
                    found = told(self, journey_waits, web, ranges, cargo, journey)
                    self.assertEqual(found, fewest_waits(web, ranges, cargo, some))
                    # For a journey the least set that does lies within each other one.
                    self.assertTrue(all(set(found) <= set(row) for row in all_waits(web, ranges, cargo, some)))
                else:
                    refused(self, Ring, {}, journey_waits, web, ranges, cargo, journey)
        self.assertGreater(min(sizes.get(size, 0) for size in (1, 2, 4)), 10)

    def test_waits_for_one_ship(self):
        # Three ships, alike in time, come ahead of one: the wait for any of them does.
        events = tuple(sorted([one + two for one in "abcd" for two in "cg"]))
        arcs = tuple([("k" + one, one + "g", one + "c") for one in "abcd"])
        rides = tuple([("s" + one, one + "g", one + "c") for one in "abcd"])
        cargo = (rides, (("x", "sa", "sd", 0), ("y", "sb", "sd", 0), ("z", "sc", "sd", 0)))
        ranges = tuple([("k" + one, 3, 3) for one in "abcd"])
        some = ("x", "y", "z")
        self.assertEqual(told(self, all_waits, (events, arcs), ranges, cargo, some), subsets(some)[1:])
        self.assertEqual(told(self, fewest_waits, (events, arcs), ranges, cargo, some), ("x",))
        longer = (*ranges[:2], ("kc", 3, 4), ranges[3])
        self.assertEqual(told(self, fewest_waits, (events, arcs), longer, cargo, some), ("z",))
        wide = tuple([("k" + one, 3, 4) for one in "abcd"])
        self.assertEqual(told(self, all_waits, (events, arcs), wide, cargo, some), [some])


class Moved(unittest.TestCase):
    def test_told(self):
        self.assertEqual(told(self, moved_by, WEB, RANGES, CARGO, ("x",), "rc"), (0, 1))
        self.assertEqual(told(self, moved_by, WEB, RANGES, CARGO, ("y",), "yc"), (0, 0))
        self.assertEqual(told(self, moved_by, WEB, RANGES, CARGO, (), "yc"), (0, 0))
        far = (RIDES, (("x", "ox", "ray", GREAT),))
        self.assertEqual(told(self, moved_by, WEB, RANGES, far, ("x",), "rc"), (GREAT - 4, GREAT - 1))
        self.assertEqual(told(self, moved_by, WEB, RANGES, far, ("x",), "oc"), (0, 0))

    def test_by_trying(self):
        for web, ranges, cargo, sets in standing(606, 15, 3):
            for waits in sets[::2]:
                changed, wide = plainly_with(web, ranges, cargo, waits)
                runs = all_runs(wide)
                for event in web[0]:
                    moved = [time_in(changed, run, event) - time_in(web, run, event) for run in runs]
                    self.assertEqual(moved_by(web, ranges, cargo, waits, event), (min(moved), max(moved)))
            self.assertEqual(told(self, moved_by, web, ranges, cargo, sets[-1], web[0][0])[0] >= 0, True)


class Wrong(unittest.TestCase):
    def test_order(self):
        """NoRange, then NoEvent, then NoArc, for some first, then Ring."""
        lack, kept = RANGES[:2] + RANGES[3:], {"name": "p"}
        for function in (with_waits, sure_by_waits, all_waits, fewest_waits):
            refused(self, NoRange, kept, function, WEB, lack, BACK, ("no", *ALL))
            refused(self, NoArc, {"name": "no"}, function, WEB, RANGES, BACK, ("no", *ALL))
            refused(self, Ring, {}, function, WEB, RANGES, BACK, ALL)
        refused(self, NoRange, kept, undone_paper, WEB, lack, BACK, ("no",), ("none", *ALL))
        refused(self, NoArc, {"name": "no"}, undone_paper, WEB, RANGES, BACK, ("no",), ("none", *ALL))
        refused(self, NoArc, {"name": "none"}, undone_paper, WEB, RANGES, BACK, ALL, ("none", *ALL))
        refused(self, NoArc, {"name": "no"}, undone_paper, WEB, RANGES, BACK, ("no", "x"), ("a",))
        refused(self, Ring, {}, undone_paper, WEB, RANGES, BACK, (), ALL)
        self.assertIs(told(self, undone_paper, WEB, RANGES, BACK, ALL, ("x", "y")) is None, False)
        ring = ("ox", "ray", "yak")
        refused(self, NoRange, kept, journey_waits, WEB, lack, CARGO, ring)
        for thing in (None, (), ("y", ("p", "x", "q")), [[]], 0):
            refused(self, NoRange, kept, is_undone_paper, WEB, lack, BACK, ("no",), ("none", *ALL), thing)
            refused(self, NoArc, {"name": "no"}, is_undone_paper, WEB, RANGES, BACK, ("no",), ("none", *ALL), thing)
            refused(self, NoArc, {"name": "none"}, is_undone_paper, WEB, RANGES, BACK, ALL, ("none", *ALL), thing)
            refused(self, Ring, {}, is_undone_paper, WEB, RANGES, BACK, ("x",), ALL, thing)
            refused(self, NoArc, {"name": "no"}, is_wait_ring, WEB, BACK, ("no", *ALL), thing)
        refused(self, NoArc, {"name": "no"}, wait_ring, WEB, BACK, ("no", *ALL))

    def test_moved(self):
        lack, waits = RANGES[:2] + RANGES[3:], ("no", *ALL)
        refused(self, NoRange, {"name": "p"}, moved_by, WEB, lack, BACK, waits, "home")
        refused(self, NoEvent, {"event": "home"}, moved_by, WEB, RANGES, BACK, waits, "home")
        refused(self, NoArc, {"name": "no"}, moved_by, WEB, RANGES, BACK, waits, "rc")
        refused(self, Ring, {}, moved_by, WEB, RANGES, BACK, ALL, "rc")

    def test_strange_names(self):
        for name in STRANGE:
            kept = {"name": name}
            for function in (with_waits, sure_by_waits, all_waits, fewest_waits):
                refused(self, NoArc, kept, function, WEB, RANGES, CARGO, (name,))
            refused(self, NoArc, kept, undone_paper, WEB, RANGES, CARGO, (name,), ("x",))
            refused(self, NoArc, kept, undone_paper, WEB, RANGES, CARGO, ("x",), (name,))
            refused(self, NoArc, kept, wait_ring, WEB, CARGO, (name,))
            refused(self, NoArc, kept, is_wait_ring, WEB, CARGO, (name,), ("x",))
            refused(self, NoArc, kept, moved_by, WEB, RANGES, CARGO, (name,), "rc")

    def test_ring_of_a_journey(self):
        # One CHANGE alone leads back: from where the first ship comes ARCS lead on to where the other one sails.
        web = (("ac", "ag", "bc", "bg"), (("k", "bg", "ac"),))
        cargo = ((("a", "ag", "ac"), ("b", "bg", "bc")), (("x", "a", "b", 0),))
        refused(self, Ring, {}, journey_waits, web, (("k", 1, 1),), cargo, ("a", "b"))
        self.assertEqual(told(self, journey_waits, web, (("k", 1, 1),), cargo, ("b",)), ())
        judged(self, is_wait_ring, (web, cargo, ("x",)), [("k", "x"), ("x", "k")], [("x",), ("k",)])


if __name__ == "__main__":
    unittest.main()

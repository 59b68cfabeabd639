"""Point 14: cargo from ship to ship."""

import itertools
import random
import unittest

from slowship.cargo import (
    best_sure, is_cargo, is_journey, is_missed_way, is_stuck_paper, missed_span, missed_way, stuck_paper, sure_changes,
    sure_journeys,
)
from slowship.errors import NoArc, NoRange, NoShip
from tests.support import (
    all_runs, in_rows, judged, refused, slow, some_ranges, subsets, time_in, told, ways_in,
)
from tests.test_webs import EMPTY

WEB = (
    ("oc", "og", "quay", "rc", "rg", "yc", "yg"),
    (("b", "quay", "rg"), ("c", "quay", "yg"), ("p", "og", "oc"), ("q", "rg", "rc"), ("r", "yg", "yc")),
)
RANGES = (("b", 6, 6), ("c", 13, 13), ("p", 2, 5), ("q", 4, 6), ("r", 1, 9))
RIDES = (("ox", "og", "oc"), ("ray", "rg", "rc"), ("yak", "yg", "yc"))
CARGO = (RIDES, (("x", "ox", "ray", 2), ("y", "ray", "yak", 1)))
BACK = (RIDES, (("x", "ox", "ray", 2), ("y", "ray", "yak", 1), ("z", "yak", "ox", 0)))
NONE = (RIDES, ())
GREAT = 10 ** 60
STRANGE = ("", "A", "ox ray", "b", "oc", "quay")


def some_cargo(chance, ships, arcs, changes):
    """A WEB with a ride of each ship, and CHANGES between them."""
    rides, rows = [], []
    for ship, letter in zip(ships, "mnopq"):
        rides.append((ship, letter + "g", letter + "c"))
        if chance.random() < 0.9:
            rows.append((letter + "g", letter + "c"))
    events = sorted(["dawn", *[event for ride in rides for event in ride[1:]]])
    while len(rows) < arcs:
        more = (chance.choice(events), chance.choice(events))
        if in_rows([("", *pair) for pair in [*rows, more]]):
            rows.append(more)
    web = tuple(events), tuple([("k" + "abcdefghij"[at], *pair) for at, pair in enumerate(sorted(rows))])
    pairs = chance.sample(list(itertools.permutations(ships, 2)), min(changes, len(ships) * (len(ships) - 1)))
    rows = [("w" + "abcdefghij"[at], *pair, chance.choice((0, 0, 1, 2))) for at, pair in enumerate(pairs)]
    return web, (tuple(rides), tuple(sorted(rows)))


def cases(seed, many, changes=4):
    """WEBS with RANGES and CARGOS: some ships sail late, so that CHANGES are sure."""
    chance = random.Random(seed)
    for _ in range(many):
        web, cargo = some_cargo(chance, ("ox", "ray", "yak", "zoe")[:chance.randint(2, 4)], 6, changes)
        ranges = some_ranges(chance, [arc[0] for arc in web[1]], chance.choice((1, 2)))
        late = [arc[0] for arc in web[1] if arc[1] == "dawn"]
        wide = [(name, low + 4, high + 4) if name in late else (name, low, high) for name, low, high in ranges]
        yield web, tuple(wide), cargo


def missed_in(web, run, cargo, change):
    """By how much this CHANGE is missed in the RUN."""
    rides = {ride[0]: ride for ride in cargo[0]}
    _, one, other, minutes = [row for row in cargo[1] if row[0] == change][0]
    return time_in(web, run, rides[one][2]) + minutes - time_in(web, run, rides[other][1])


def plain_sure(web, ranges, cargo):
    """The names of the CHANGES that are reached in all RUNS."""
    runs = all_runs(ranges)
    return tuple([row[0] for row in cargo[1] if all(missed_in(web, run, cargo, row[0]) <= 0 for run in runs)])


def plain_journeys(cargo, names):
    """All journeys by CHANGES of these names."""
    pairs = [row[1:3] for row in cargo[1] if row[0] in names]
    ships = [ride[0] for ride in cargo[0]]
    rows = itertools.chain(*[itertools.permutations(ships, many) for many in range(1, len(ships) + 1)])
    return sorted([row for row in rows if all(pair in pairs for pair in zip(row, row[1:]))])


class Cargos(unittest.TestCase):
    def test_judged(self):
        bad = [(RIDES[::-1], ()), (RIDES, CARGO[1][::-1]), (RIDES, (("x", "ox", "ray", -1),)), (RIDES, ("x",)),
               (RIDES, (("b", "ox", "ray", 2),)), (RIDES, (("x", "ox", "ox", 2),)), (RIDES, (("x", "ox", "zoe", 2),)),
               (RIDES, (("x", "zoe", "ox", 2),)), (RIDES, (("x", "ox", "ray", 2), ("y", "ox", "ray", 3))),
               (RIDES, (("x", "ox", "ray", 2), ("x", "ray", "ox", 2))), (RIDES[:1], CARGO[1]),
               ((("ox", "og", "oc"), ("ox", "rg", "rc")), ()), ((("ox", "og", "og"),), ()), ((("ox", "og", "zz"),), ()),
               ((("ox", "og", "oc"), ("ray", "oc", "rc")), ()), ((("ox", "og", "oc"), ("ray", "og", "rc")), ()),
               ((("ox", "og", "oc"), ("ray", "rg", "oc")), ()), ((("ox", "og"),), ()), ((("ox", "og", "oc", "rc"),), ()),
               (RIDES, CARGO[1], ()), (RIDES,), (RIDES, (("x", "ox", "ray", 2, 3),)), (RIDES, (("x", "ox", "ray"),))]
        judged(self, is_cargo, (WEB,), [CARGO, NONE, ((), ())], bad)
        self.assertIs(told(self, is_cargo, WEB, BACK), True)
        self.assertIs(told(self, is_cargo, EMPTY, ((), ())), True)
        self.assertIs(told(self, is_cargo, EMPTY, CARGO), False)
        self.assertIs(told(self, is_cargo, WEB, (RIDES, (("x", "ox", "ray", 0), ("y", "ray", "ox", GREAT)))), True)

    def test_many(self):
        letters = "abcdefghijklmnop"
        events = tuple(sorted([one + two for one in letters for two in "xy"]))
        rides = tuple([("s" + one, one + "x", one + "y") for one in letters])
        changes = tuple([(f"c{one}{two}", "s" + one, "s" + two, 7) for one in letters for two in letters if one != two])
        self.assertIs(told(self, is_cargo, (events, ()), (rides, changes)), True)

    def test_journeys_judged(self):
        bad = [("ox", "yak"), ("ray", "ox"), ("ox", "ray", "ox"), ("ox", "ox"), ("zoe",), ("ox", "ray", "zoe"), (),
               ("zoe", "ox"), ("x",), ("x", "y")]
        judged(self, is_journey, (CARGO,), [("ox",), ("ray",), ("ox", "ray"), ("ox", "ray", "yak"), ("ray", "yak")], bad)
        judged(self, is_journey, (BACK,), [("yak", "ox", "ray")], [("yak", "ox", "ray", "yak"), *bad[1:]])
        judged(self, is_journey, (NONE,), [("ox",)], [("ox", "ray")])
        judged(self, is_journey, (((), ()),), [], [("ox",), ()])

    def test_journeys_by_trying(self):
        for _, _, cargo in cases(501, 10, 6):
            ships = [ride[0] for ride in cargo[0]]
            good = plain_journeys(cargo, [row[0] for row in cargo[1]])
            for many in range(4):
                for row in itertools.product(ships, repeat=many):
                    self.assertIs(is_journey(cargo, row), row in good)


class Changes(unittest.TestCase):
    def test_told(self):
        self.assertEqual(told(self, missed_span, WEB, RANGES, CARGO, "x"), (-2, 1))
        self.assertEqual(told(self, missed_span, WEB, RANGES, CARGO, "y"), (-2, 0))
        self.assertEqual(told(self, sure_changes, WEB, RANGES, CARGO), ("y",))
        self.assertEqual(told(self, missed_way, WEB, RANGES, CARGO, "x"), ("p",))
        self.assertIs(told(self, missed_way, WEB, RANGES, CARGO, "y"), None)
        self.assertEqual(told(self, sure_changes, WEB, RANGES, NONE), ())
        self.assertEqual(told(self, sure_changes, EMPTY, (), ((), ())), ())

    def test_great_numbers(self):
        cargo = (RIDES, (("x", "ox", "ray", GREAT), ("y", "ray", "yak", 1)))
        self.assertEqual(told(self, missed_span, WEB, RANGES, cargo, "x"), (GREAT - 4, GREAT - 1))
        self.assertEqual(told(self, missed_way, WEB, (*RANGES[:4], ("r", 1, GREAT)), cargo, "x"), ("p",))
        wide = (("b", 0, GREAT), *RANGES[1:])
        self.assertEqual(told(self, missed_span, WEB, wide, CARGO, "x"), (4 - GREAT, 7))

    def test_by_trying(self):
        kinds = [0, 0]
        for web, ranges, cargo in cases(502, 40):
            runs = all_runs(ranges)
            sure = plain_sure(web, ranges, cargo)
            self.assertEqual(told(self, sure_changes, web, ranges, cargo), sure)
            for change, one, _, _ in cargo[1]:
                missed = [missed_in(web, run, cargo, change) for run in runs]
                span = (min(missed), max(missed))
                self.assertEqual(told(self, missed_span, web, ranges, cargo, change), span)
                comes = [ride[2] for ride in cargo[0] if ride[0] == one][0]
                good = [way for way in ways_in(web, comes) if missed_in(web, slow(ranges, way), cargo, change) > 0]
                for event in web[0]:
                    for way in ways_in(web, event):
                        self.assertIs(is_missed_way(web, ranges, cargo, change, way), way in good)
                way = told(self, missed_way, web, ranges, cargo, change)
                self.assertIs(way is None, change in sure)
                self.assertEqual(good == [], change in sure)
                self.assertTrue(way is None or way in good)
                kinds[change in sure] += 1
        self.assertGreater(min(kinds), 25)

    def test_judged(self):
        bad = [(), ("b",), ("q",), ("p", "p"), ("p", "x"), ("zz",)]
        judged(self, is_missed_way, (WEB, RANGES, CARGO, "x"), [("p",)], bad)
        judged(self, is_missed_way, (WEB, RANGES, CARGO, "y"), [], [("b", "q"), *bad])
        # It is missed, though another WAY is longer in the slow RUN of this one.
        web = (("oc", "og", "rc", "rg"), (("p", "og", "oc"), ("q", "og", "oc")))
        cargo = ((("ox", "og", "oc"), ("ray", "rg", "rc")), (("x", "ox", "ray", 0),))
        judged(self, is_missed_way, (web, (("p", 0, 1), ("q", 5, 6)), cargo, "x"), [("p",), ("q",)], [()])


class Journeys(unittest.TestCase):
    def test_told(self):
        self.assertEqual(told(self, sure_journeys, WEB, RANGES, CARGO, "ray", "yak"), [("ray", "yak")])
        self.assertEqual(told(self, sure_journeys, WEB, RANGES, CARGO, "ox", "yak"), [])
        self.assertEqual(told(self, sure_journeys, WEB, RANGES, CARGO, "ox", "ox"), [("ox",)])
        self.assertEqual(told(self, best_sure, WEB, RANGES, CARGO, "ray", ("yak",)), (22, ("ray", "yak")))
        self.assertEqual(told(self, best_sure, WEB, RANGES, CARGO, "ray", ("ox", "ray", "yak")), (12, ("ray",)))
        self.assertIs(told(self, best_sure, WEB, RANGES, CARGO, "ox", ("ray", "yak")), None)
        self.assertIs(told(self, best_sure, WEB, RANGES, CARGO, "ox", ()), None)
        self.assertEqual(told(self, stuck_paper, WEB, RANGES, CARGO, "ox", "yak"), (("ox",), (("x", ("p",)),)))
        self.assertIs(told(self, stuck_paper, WEB, RANGES, CARGO, "ray", "yak"), None)
        self.assertIs(told(self, stuck_paper, WEB, RANGES, CARGO, "ox", "ox"), None)
        self.assertEqual(told(self, stuck_paper, WEB, RANGES, NONE, "ox", "yak"), (("ox",), ()))

    def test_back_again(self):
        # Sure CHANGES lead back to the first ship: it is among the ships once.
        events = tuple(sorted([one + two for one in "abc" for two in "cg"]))
        rides = tuple([("s" + one, one + "g", one + "c") for one in "abc"])
        cargo = (rides, (("v", "sa", "sb", 0), ("w", "sb", "sa", 0), ("x", "sb", "sc", 1), ("y", "sc", "sa", 0)))
        paper = (("sa", "sb"), (("x", ()),))
        self.assertEqual(told(self, stuck_paper, (events, ()), (), cargo, "sa", "sc"), paper)
        self.assertEqual(told(self, stuck_paper, (events, ()), (), cargo, "sb", "sc"), paper)
        self.assertIs(told(self, stuck_paper, (events, ()), (), cargo, "sc", "sb"), None)
        self.assertEqual(told(self, sure_journeys, (events, ()), (), cargo, "sc", "sb"), [("sc", "sa", "sb")])
        self.assertEqual(told(self, sure_journeys, (events, ()), (), cargo, "sa", "sa"), [("sa",)])

    def test_same_time(self):
        # Both last ships come at one time: the fewest ships decide, then the least journey.
        events = tuple(sorted([one + two for one in "abcd" for two in "cg"]))
        rides = tuple([("s" + one, one + "g", one + "c") for one in "abcd"])
        arcs = tuple(sorted([("k" + one, one + "g", one + "c") for one in "abcd"]))
        ranges = tuple([(arc[0], 0, 0) for arc in arcs])
        changes = (("va", "sa", "sc", 0), ("vb", "sa", "sd", 0), ("vc", "sb", "sd", 0), ("vd", "sc", "sd", 0),
                   ("ve", "sd", "sb", 0))
        cargo = (rides, changes)
        args = ((events, arcs), ranges, cargo)
        self.assertEqual(told(self, best_sure, *args, "sa", ("sb", "sc", "sd")), (0, ("sa", "sc")))
        self.assertEqual(told(self, best_sure, *args, "sa", ("sb", "sd")), (0, ("sa", "sd")))
        self.assertEqual(told(self, best_sure, *args, "sa", ("sb",)), (0, ("sa", "sd", "sb")))
        rows = [("sa", "sc", "sd", "sb"), ("sa", "sd", "sb")]
        self.assertEqual(told(self, sure_journeys, *args, "sa", "sb"), rows)
        slower = (*ranges[:3], ("kd", 0, GREAT))
        self.assertEqual(told(self, best_sure, *args[:1], slower, cargo, "sb", ("sd",)), (GREAT, ("sb", "sd")))

    def test_by_trying(self):
        stuck = found = 0
        for web, ranges, cargo in cases(503, 30, 6):
            sure = plain_sure(web, ranges, cargo)
            rows = plain_journeys(cargo, sure)
            ships = [ride[0] for ride in cargo[0]]
            highs = tuple([(name, high) for name, _, high in ranges])
            comes = {ship: time_in(web, highs, event) for ship, _, event in cargo[0]}
            for first in ships:
                for last in ships:
                    good = [row for row in rows if row[0] == first and row[-1] == last]
                    self.assertEqual(told(self, sure_journeys, web, ranges, cargo, first, last), good)
                    paper = told(self, stuck_paper, web, ranges, cargo, first, last)
                    self.assertIs(paper is None, good != [])
                    if paper is not None:
                        self.check_paper(web, ranges, cargo, (first, last), paper)
                        stuck += 1
                for lasts in subsets(ships):
                    good = [(comes[row[-1]], len(row), row) for row in rows if row[0] == first and row[-1] in lasts]
                    best = (min(good)[0], min(good)[2]) if good else None
                    self.assertEqual(best_sure(web, ranges, cargo, first, lasts), best)
                    found += best is not None and len(best[1]) > 1
        self.assertGreater(stuck, 100)
        self.assertGreater(found, 30)

    def check_paper(self, web, ranges, cargo, ends, paper):
        """The ships have first, not last, and each CHANGE out of them is missed in the slow RUN of its WAY."""
        ships, papers = paper
        self.assertTrue(ends[0] in ships and ends[1] not in ships)
        self.assertEqual(ships, tuple(sorted(set(ships))))
        out = [row for row in cargo[1] if row[1] in ships and row[2] not in ships]
        self.assertEqual([name for name, _ in papers], [row[0] for row in out])
        for name, way in papers:
            self.assertGreater(missed_in(web, slow(ranges, way), cargo, name), 0)
        self.assertIs(is_stuck_paper(web, ranges, cargo, *ends, paper), True)

    def test_papers_by_trying(self):
        for web, ranges, cargo in cases(504, 12, 3):
            ships = [ride[0] for ride in cargo[0]]
            rides = {ride[0]: ride for ride in cargo[0]}
            for some in subsets(ships):
                out = [row for row in cargo[1] if row[1] in some and row[2] not in some]
                choices = [[(row[0], way) for way in ways_in(web, rides[row[1]][2])] for row in out]
                for papers in itertools.islice(itertools.product(*choices), 8):
                    fine = all(missed_in(web, slow(ranges, way), cargo, name) > 0 for name, way in papers)
                    for first, last in itertools.product(ships, ships):
                        good = fine and first in some and last not in some
                        self.assertIs(is_stuck_paper(web, ranges, cargo, first, last, (some, papers)), good)

    def test_judged(self):
        paper = (("ox",), (("x", ("p",)),))
        bad = [(("ox",), ()), (("ox",), (("x", ()),)), (("ox",), (("y", ("p",)),)), ((), ()), (("ox", "ray"), ()),
               (("ox", "ray"), (("y", ("b", "q")),)), (("ox", "yak"), (("x", ("p",)),)), (("ray", "yak"), ()),
               (("ox",), (("x", ("p",)), ("x", ("p",)))), (("ox", "zoe"), (("x", ("p",)),)), (("ox",), (("x", ("p",)), ())),
               (("ox", "ox"), (("x", ("p",)),)), (("ox",), (("x", ("p",), ()),)), (("ox",), ("x",))]
        judged(self, is_stuck_paper, (WEB, RANGES, CARGO, "ox", "yak"), [paper], bad)
        judged(self, is_stuck_paper, (WEB, RANGES, CARGO, "ox", "ray"), [paper, (("ox", "yak"), paper[1])],
               [one for one in bad if one[0] != ("ox", "yak")])
        judged(self, is_stuck_paper, (WEB, RANGES, CARGO, "ox", "ox"), [], [paper, *bad])
        judged(self, is_stuck_paper, (WEB, RANGES, CARGO, "yak", "ox"), [(("yak",), ()), (("ray", "yak"), ())],
               [paper, (("ray",), ())])


class Wrong(unittest.TestCase):
    def test_no_range(self):
        lack, kept = RANGES[:2] + RANGES[3:], {"name": "p"}
        refused(self, NoRange, kept, sure_changes, WEB, lack, CARGO)
        refused(self, NoRange, {"name": "b"}, sure_changes, WEB, (), NONE)
        for function in (missed_span, missed_way):
            refused(self, NoRange, kept, function, WEB, lack, CARGO, "no")
        for function in (sure_journeys, stuck_paper):
            refused(self, NoRange, kept, function, WEB, lack, CARGO, "no", "none")
        refused(self, NoRange, kept, best_sure, WEB, lack, CARGO, "no", ("none",))
        for thing in (None, (), ("p",), (("ox",), (("x", ("p",)),)), [[]]):
            refused(self, NoRange, kept, is_missed_way, WEB, lack, CARGO, "no", thing)
            refused(self, NoRange, kept, is_stuck_paper, WEB, lack, CARGO, "no", "none", thing)

    def test_no_change(self):
        for change in ("no", *STRANGE):
            for function in (missed_span, missed_way):
                refused(self, NoArc, {"name": change}, function, WEB, RANGES, CARGO, change)
            for thing in (None, (), ("p",), [[]]):
                refused(self, NoArc, {"name": change}, is_missed_way, WEB, RANGES, CARGO, change, thing)
        refused(self, NoArc, {"name": "x"}, missed_span, WEB, RANGES, NONE, "x")

    def test_no_ship(self):
        for name in ("zoe", *STRANGE):
            kept = {"name": name}
            for function in (sure_journeys, stuck_paper):
                refused(self, NoShip, kept, function, WEB, RANGES, CARGO, name, "none")
                refused(self, NoShip, kept, function, WEB, RANGES, CARGO, "ox", name)
                refused(self, NoShip, kept, function, WEB, RANGES, CARGO, name, name)
            refused(self, NoShip, kept, best_sure, WEB, RANGES, CARGO, name, ("A", "none"))
            refused(self, NoShip, kept, best_sure, WEB, RANGES, CARGO, name, ())
            refused(self, NoShip, kept, best_sure, WEB, RANGES, CARGO, "ox", (name, "zzz"))
            for thing in (None, (), (("ox",), ()), [[]]):
                refused(self, NoShip, kept, is_stuck_paper, WEB, RANGES, CARGO, name, "none", thing)
                refused(self, NoShip, kept, is_stuck_paper, WEB, RANGES, CARGO, "ox", name, thing)
        refused(self, NoShip, {"name": "A"}, best_sure, WEB, RANGES, CARGO, "ox", ("A", "none", "ox"))
        refused(self, NoShip, {"name": "pig"}, best_sure, WEB, RANGES, CARGO, "ox", ("ox", "pig", "yaks"))


if __name__ == "__main__":
    unittest.main()

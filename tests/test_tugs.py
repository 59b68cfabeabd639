"""Point 13: tugs."""

import itertools
import random
import unittest

from slowship.errors import NoRange, NoShip
from slowship.tugs import (
    a_cover, a_roster, fewest_let, fewest_tugs, is_cover, is_late_turn, is_roster, is_tows, late_turn, least_let,
    sure_turns, tugs_in, turn_late,
)
from tests.support import (
    all_runs, end_runs, in_rows, judged, length_in, refused, slow, some_ranges, some_web, subsets, time_in, told,
    ways_in,
)
from tests.test_webs import EMPTY

WEB = (
    ("dawn", "ea", "eb", "ec", "ga", "gb", "gc"),
    (("a", "ga", "ea"), ("b", "gb", "eb"), ("c", "gc", "ec"), ("p", "dawn", "ga"), ("q", "dawn", "gb"),
     ("r", "ea", "gc")),
)
RANGES = (("a", 3, 9), ("b", 1, 2), ("c", 1, 2), ("p", 0, 4), ("q", 8, 8), ("r", 2, 2))
TOWS = (("anna", "ga", "ea", "sea", "quay"), ("bess", "gb", "eb", "quay", "sea"), ("cora", "gc", "ec", "quay", "sea"))
GREAT = 10 ** 60


def tow_cases(seed, many, count=4):
    """WEBS with RANGES and TOWS at a few places; each TOW is an ARC that takes 1 or more."""
    chance = random.Random(seed)
    for _ in range(many):
        row = chance.sample("abcdef", 6)
        chain = [(name, *pair) for name, pair in zip("pqrst", zip(row, row[1:]))][:chance.randint(2, 5)]
        web = some_web(chance, "uv", tuple("abcdef"))
        if in_rows([*chain, *web[1]]):
            web = web[0], tuple([*chain, *web[1]])
        ranges = some_ranges(chance, "pqrstuv", 1)
        ranges = tuple([(name, low + 1, high + 1) if chance.random() < 0.8 else (name, low, high)
                        for name, low, high in ranges])
        lows = {name: low for name, low, _ in ranges}
        moving = [arc[1:] for arc in web[1] if lows[arc[0]] >= 1]
        chance.shuffle(moving)
        places = [chance.choices(("quay", "quay", "sea"), k=2) for _ in range(count)]
        ships = ("anna", "bess", "cora", "dora")
        yield web, ranges, tuple([(ship, *ends, *pair) for ship, ends, pair in zip(ships, moving, places)])


def plain_turns(web, ranges, tows, pause):
    """The lateness of all turns, by trying all RUNS."""
    runs = [{event: time_in(web, run, event) for event in web[0]} for run in all_runs(ranges)]
    found = {}
    for one, other in itertools.product(tows, tows):
        if one[4] == other[3] and all(row[one[1]] < row[other[1]] for row in runs):
            found[one[0], other[0]] = max(row[one[2]] - row[other[1]] for row in runs) + pause
    return found


def rosters(ships, turns):
    """All ways to deal the ships out to tugs, one behind another over these turns."""
    if not ships:
        return [()]
    found = []
    for row in itertools.chain(*[itertools.permutations(ships, many) for many in range(1, len(ships) + 1)]):
        if all(pair in turns for pair in zip(row, row[1:])):
            left = [ship for ship in ships if ship not in row]
            found.extend([(row, *more) for more in rosters(left, turns) if not more or row < more[0]])
    return found


def covers(ships, turns):
    return [(ones, others) for ones in subsets(ships) for others in subsets(ships)
            if all(one in ones or other in others for one, other in turns)]


class Tows(unittest.TestCase):
    def test_judged(self):
        bad = [TOWS[::-1], (TOWS[0], TOWS[0]), (TOWS[0], ("anna", "gb", "eb", "quay", "sea")),
               (("anna", "ea", "ga", "sea", "quay"),), (("anna", "ga", "ec", "sea", "quay"),),
               (("anna", "dawn", "ga", "sea", "quay"),), (("anna", "ga", "zz", "sea", "quay"),),
               (("anna", "ga", "ea", "sea"),), (("anna", "ga", "ea", "sea", "quay", "sea"),),
               (("anna", "ga", "ga", "sea", "quay"),), (("anna", "ga", "ea", "Sea", "quay"),)]
        judged(self, is_tows, (WEB, RANGES), [TOWS, ()], bad)
        judged(self, is_tows, (EMPTY, ()), [()], [TOWS])

    def test_kinds(self):
        # One of two ARCS is enough; a low of 0 is not, 1 is.
        web = (("a", "b"), (("x", "a", "b"), ("y", "a", "b")))
        tows = (("ship", "a", "b", "home", "home"),)
        for low, fine in ((0, False), (1, True), (GREAT, True)):
            self.assertIs(told(self, is_tows, web, (("x", 0, 5), ("y", low, GREAT)), tows), fine)
            self.assertIs(told(self, is_tows, web, (("x", low, GREAT), ("y", 0, 5)), tows), fine)
        many = tuple([("s" + sign, "ga", "ea", "sea", "quay") for sign in "abcdefghijklmnopqrstuvwxyz"])
        self.assertIs(told(self, is_tows, WEB, RANGES, many), True)

    def test_no_range(self):
        lack = RANGES[:3] + RANGES[4:]
        for thing in (None, TOWS, (), [[]]):
            refused(self, NoRange, {"name": "p"}, is_tows, WEB, lack, thing)
            refused(self, NoRange, {"name": "a"}, is_tows, WEB, (), thing)


class Turns(unittest.TestCase):
    def test_told(self):
        self.assertEqual(told(self, turn_late, WEB, RANGES, TOWS, 2, "anna", "bess"), 7)
        self.assertEqual(told(self, turn_late, WEB, RANGES, TOWS, 2, "anna", "cora"), 0)
        self.assertIs(told(self, turn_late, WEB, RANGES, TOWS, 2, "bess", "anna"), None)
        self.assertIs(told(self, turn_late, WEB, RANGES, TOWS, 2, "anna", "anna"), None)
        self.assertEqual(told(self, sure_turns, WEB, RANGES, TOWS, 2), (("anna", "cora"),))
        self.assertEqual(told(self, sure_turns, WEB, RANGES, TOWS, 3), ())
        self.assertEqual(told(self, sure_turns, WEB, RANGES, TOWS, 0), (("anna", "cora"),))
        self.assertEqual(told(self, late_turn, WEB, RANGES, TOWS, 2, "anna", "bess"), ("p", "a"))
        self.assertIs(told(self, late_turn, WEB, RANGES, TOWS, 2, "anna", "cora"), None)
        self.assertIs(told(self, late_turn, WEB, RANGES, TOWS, 0, "bess", "anna"), None)

    def test_same_moment(self):
        # Begins at one moment in some RUN: then this is no turn.
        web = (("a", "b", "c", "d"), (("x", "a", "b"), ("y", "a", "c"), ("z", "c", "d")))
        tows = (("one", "a", "b", "h", "h"), ("two", "c", "d", "h", "h"))
        for low, late in ((0, None), (1, 0)):
            ranges = (("x", 1, 1), ("y", low, 3), ("z", 1, 1))
            self.assertEqual(told(self, turn_late, web, ranges, tows, 0, "one", "two"), late)
            self.assertIs(told(self, turn_late, web, ranges, tows, 0, "two", "one"), None)
            self.assertEqual(told(self, fewest_tugs, web, ranges, tows, 0), 2 if late is None else 1)

    def test_great_numbers(self):
        ranges = (("a", 3, GREAT), *RANGES[1:])
        self.assertEqual(told(self, turn_late, WEB, ranges, TOWS, GREAT, "anna", "bess"), 2 * GREAT - 4)
        self.assertEqual(told(self, turn_late, WEB, ranges, TOWS, 0, "anna", "cora"), -2)
        self.assertEqual(told(self, least_let, WEB, RANGES, TOWS, 2 ** 65, 2), 2 ** 65 - 2)

    def test_by_trying(self):
        kinds = {"sure": 0, "late": 0}
        for at, (web, ranges, tows) in enumerate(tow_cases(401, 60)):
            pause = at % 4
            turns = plain_turns(web, ranges, tows, pause)
            for one, other in itertools.product(tows, tows):
                pair = one[0], other[0]
                late = told(self, turn_late, web, ranges, tows, pause, *pair)
                self.assertEqual(late, turns.get(pair))
                kinds["late" if pair in turns and late > 0 else "sure"] += pair in turns
                way = told(self, late_turn, web, ranges, tows, pause, *pair)
                good = []
                for part in ways_in(web, one[2]):
                    run = slow(ranges, part)
                    if pair in turns and length_in(run, part) - time_in(web, run, other[1]) > -pause:
                        good.append(part)
                    self.assertIs(is_late_turn(web, ranges, tows, pause, *pair, part), part in good)
                self.assertIs(way is None, late is None or late <= 0)
                self.assertTrue(way is None or way in good)
            sure = tuple(sorted([pair for pair in turns if turns[pair] <= 0]))
            self.assertEqual(told(self, sure_turns, web, ranges, tows, pause), sure)
        self.assertGreater(min(kinds.values()), 15)

    def test_late_judged(self):
        bad = [("a",), ("p",), (), ("p", "a", "r"), ("q",), ("q", "b")]
        judged(self, is_late_turn, (WEB, RANGES, TOWS, 2, "anna", "bess"), [("p", "a")], bad)
        judged(self, is_late_turn, (WEB, RANGES, TOWS, 2, "anna", "cora"), [], [("p", "a"), *bad])
        judged(self, is_late_turn, (WEB, RANGES, TOWS, 2, "bess", "anna"), [], [("p", "a"), *bad])
        judged(self, is_late_turn, (WEB, RANGES, TOWS, 3, "anna", "cora"), [("p", "a")], bad)


class Rosters(unittest.TestCase):
    def test_told(self):
        self.assertEqual(told(self, fewest_tugs, WEB, RANGES, TOWS, 2), 2)
        self.assertEqual(told(self, fewest_tugs, WEB, RANGES, TOWS, 3), 3)
        self.assertEqual(told(self, a_roster, WEB, RANGES, TOWS, 2), (("anna", "cora"), ("bess",)))
        self.assertEqual(told(self, a_roster, WEB, RANGES, TOWS, 3), (("anna",), ("bess",), ("cora",)))
        self.assertEqual(told(self, a_cover, WEB, RANGES, TOWS, 3), ((), ()))
        self.assertIn(told(self, a_cover, WEB, RANGES, TOWS, 2), ((("anna",), ()), ((), ("cora",))))

    def test_no_tows(self):
        self.assertEqual(told(self, sure_turns, WEB, RANGES, (), 0), ())
        self.assertEqual(told(self, fewest_tugs, WEB, RANGES, (), 0), 0)
        self.assertEqual(told(self, a_roster, WEB, RANGES, (), 0), ())
        self.assertEqual(told(self, a_cover, WEB, RANGES, (), 0), ((), ()))
        self.assertEqual(told(self, fewest_let, WEB, RANGES, (), 0, 9), 0)
        self.assertEqual(told(self, least_let, WEB, RANGES, (), 0, 1), 0)
        run = tuple([(name, low) for name, low, _ in RANGES])
        self.assertEqual(told(self, tugs_in, WEB, (), 0, run), 0)
        judged(self, is_roster, (WEB, RANGES, (), 0), [()], [((),), (("anna",),)])
        judged(self, is_cover, (WEB, RANGES, (), 0), [((), ())], [(("anna",), ())])

    def test_judged(self):
        bad = [(("anna", "cora"),), (("bess",), ("anna", "cora")), (("anna", "bess"), ("cora",)),
               (("cora", "anna"), ("bess",)),
               (("anna",), ("anna", "cora"), ("bess",)), (("anna",), ("bess",)), ((), ("anna", "cora"), ("bess",)),
               (("anna", "cora"), ("bess",), ("dora",)), (("anna", "cora", "bess"),), (("anna",), ("cora",), ("bess",)),
               (("anna",), ("bess",), ("cora",), ("cora",)), ()]
        good = [(("anna", "cora"), ("bess",)), (("anna",), ("bess",), ("cora",))]
        judged(self, is_roster, (WEB, RANGES, TOWS, 2), good, bad)
        judged(self, is_roster, (WEB, RANGES, TOWS, 3), good[1:], [good[0], *bad])

    def test_covers_judged(self):
        bad = [((), ()), (("bess",), ()), ((), ("anna",)), (("anna", "dora"), ()), (("anna",), ("dora",)),
               (("cora",), ("anna",)), (("bess", "anna"), ()), (("anna", "anna"), ()), (("anna",), (), ())]
        good = [(("anna",), ()), ((), ("cora",)), (("anna", "bess", "cora"), ("anna",)), (("bess",), ("bess", "cora"))]
        judged(self, is_cover, (WEB, RANGES, TOWS, 2), good, bad)
        self.assertIs(told(self, is_cover, WEB, RANGES, TOWS, 3, ((), ())), True)

    def test_by_trying(self):
        saved = 0
        for at, (web, ranges, tows) in enumerate(tow_cases(402, 60)):
            pause = at % 3
            turns = plain_turns(web, ranges, tows, pause)
            sure = [pair for pair in turns if turns[pair] <= 0]
            ships = [tow[0] for tow in tows]
            good = rosters(ships, sure)
            few = min(len(roster) for roster in good)
            self.assertEqual(told(self, fewest_tugs, web, ranges, tows, pause), few)
            roster = told(self, a_roster, web, ranges, tows, pause)
            self.assertIn(roster, good)
            self.assertEqual(len(roster), few)
            for one in rosters(ships, list(itertools.product(ships, ships)))[::7]:
                self.assertIs(is_roster(web, ranges, tows, pause, one), one in good)
            best = covers(ships, sure)
            for one in itertools.product(subsets(ships)[::3], subsets(ships)):
                self.assertIs(is_cover(web, ranges, tows, pause, one), one in best)
            cover = told(self, a_cover, web, ranges, tows, pause)
            self.assertIn(cover, best)
            self.assertEqual(len(cover[0]) + len(cover[1]), min(len(ones) + len(others) for ones, others in best))
            self.assertEqual(len(cover[0]) + len(cover[1]), len(tows) - few)
            saved += len(tows) - few
        self.assertGreater(saved, 15)

    def test_six_tows(self):
        # One behind another, each one 2 behind: with pauses one tug, two, or six of them do.
        events = tuple("abcdefg")
        web = events, tuple([("k" + one, one, other) for one, other in zip(events, events[1:])])
        ranges = tuple([(arc[0], 2, 2) for arc in web[1]])
        tows = tuple([("s" + one, one, other, "h", "h") for one, other in zip(events, events[1:])])
        found = [told(self, fewest_tugs, web, ranges, tows, pause) for pause in (0, 1, 2, 3, 8, 9)]
        self.assertEqual(found, [1, 2, 2, 3, 5, 6])
        self.assertEqual(told(self, a_roster, web, ranges, tows, 0), (("sa", "sb", "sc", "sd", "se", "sf"),))
        self.assertEqual(told(self, least_let, web, ranges, tows, 3, 1), 3)
        self.assertEqual(told(self, least_let, web, ranges, tows, 3, 2), 1)
        self.assertEqual(told(self, least_let, web, ranges, tows, 3, 3), 0)


class Letting(unittest.TestCase):
    def test_told(self):
        self.assertEqual(told(self, fewest_let, WEB, RANGES, TOWS, 3, 0), 3)
        self.assertEqual(told(self, fewest_let, WEB, RANGES, TOWS, 3, 1), 2)
        self.assertEqual(told(self, fewest_let, WEB, RANGES, TOWS, 3, GREAT), 2)
        self.assertEqual(told(self, least_let, WEB, RANGES, TOWS, 3, 2), 1)
        self.assertIs(told(self, least_let, WEB, RANGES, TOWS, 3, 1), None)
        self.assertEqual(told(self, least_let, WEB, RANGES, TOWS, 3, 3), 0)
        self.assertEqual(told(self, least_let, WEB, RANGES, TOWS, 3, GREAT), 0)
        self.assertEqual(told(self, least_let, WEB, RANGES, TOWS, 2, 2), 0)

    def test_by_trying(self):
        later = 0
        for at, (web, ranges, tows) in enumerate(tow_cases(403, 40)):
            pause = at % 5
            turns = plain_turns(web, ranges, tows, pause)
            ships = [tow[0] for tow in tows]
            few = [min(len(row) for row in rosters(ships, [pair for pair in turns if turns[pair] <= let]))
                   for let in range(15)]
            for let in range(15):
                self.assertEqual(fewest_let(web, ranges, tows, pause, let), few[let])
            for number in range(1, 5):
                lets = [let for let in range(15) if few[let] <= number]
                least = told(self, least_let, web, ranges, tows, pause, number)
                self.assertEqual(least, lets[0] if lets else None)
                later += least not in (0, None)
        self.assertGreater(later, 5)

    def test_in_runs(self):
        for at, (web, ranges, tows) in enumerate(tow_cases(404, 25)):
            pause = at % 3
            ships = [tow[0] for tow in tows]
            for run in end_runs(ranges)[::5]:
                times = {event: time_in(web, run, event) for event in web[0]}
                turns = [(one[0], other[0]) for one, other in itertools.product(tows, tows)
                         if one[4] == other[3] and times[one[2]] + pause <= times[other[1]]]
                few = min(len(row) for row in rosters(ships, turns))
                self.assertEqual(tugs_in(web, tows, pause, run), few)
                self.assertLessEqual(few, fewest_tugs(web, ranges, tows, pause))

    def test_in_run(self):
        slowly, fast = [tuple([(row[0], row[at]) for row in RANGES]) for at in (2, 1)]
        self.assertEqual(told(self, tugs_in, WEB, TOWS, 2, slowly), 2)
        self.assertEqual(told(self, tugs_in, WEB, TOWS, 3, slowly), 3)
        self.assertEqual(told(self, tugs_in, WEB, TOWS, 3, fast), 2)
        self.assertEqual(told(self, tugs_in, WEB, TOWS, GREAT, fast), 3)
        # Seen afterwards fewer may do, even in each RUN: either one goes first.
        web = (("a", "b", "c", "d"), (("x", "a", "b"), ("y", "a", "c"), ("z", "c", "d")))
        tows = (("one", "a", "b", "h", "i"), ("two", "c", "d", "i", "h"))
        self.assertEqual(told(self, tugs_in, web, tows, 0, (("x", 1), ("y", 1), ("z", 1))), 1)
        self.assertEqual(told(self, tugs_in, web, tows, 0, (("x", 2), ("y", 1), ("z", 1))), 2)


class Wrong(unittest.TestCase):
    def test_no_range(self):
        lack = RANGES[:3] + RANGES[4:]
        kept = {"name": "p"}
        for function in (sure_turns, fewest_tugs, a_roster, a_cover):
            refused(self, NoRange, kept, function, WEB, lack, TOWS, 0)
            refused(self, NoRange, kept, function, WEB, lack, (), 0)
        for function in (turn_late, late_turn):
            refused(self, NoRange, kept, function, WEB, lack, TOWS, 0, "nobody", "else")
        for function in (fewest_let, least_let):
            refused(self, NoRange, kept, function, WEB, lack, TOWS, 0, 1)
            refused(self, NoRange, kept, function, WEB, lack, (), 0, 1)
        for thing in (None, (), ((), ()), [[]], ("p", "a")):
            refused(self, NoRange, kept, is_roster, WEB, lack, TOWS, 0, thing)
            refused(self, NoRange, kept, is_cover, WEB, lack, TOWS, 0, thing)
            refused(self, NoRange, kept, is_late_turn, WEB, lack, TOWS, 0, "nobody", "else", thing)
        run = tuple([(row[0], row[1]) for row in lack])
        refused(self, NoRange, kept, tugs_in, WEB, TOWS, 0, run)
        refused(self, NoRange, {"name": "a"}, tugs_in, WEB, (), 0, ())

    def test_no_ship(self):
        for one, other, lacking in (("dora", "else", "dora"), ("anna", "else", "else"), ("ga", "anna", "ga"),
                                    ("quay", "quay", "quay")):
            for function in (turn_late, late_turn):
                refused(self, NoShip, {"name": lacking}, function, WEB, RANGES, TOWS, 0, one, other)
            for thing in (None, (), ("p", "a"), [[]]):
                refused(self, NoShip, {"name": lacking}, is_late_turn, WEB, RANGES, TOWS, 0, one, other, thing)
        refused(self, NoShip, {"name": "anna"}, turn_late, WEB, RANGES, (), 0, "anna", "anna")


if __name__ == "__main__":
    unittest.main()

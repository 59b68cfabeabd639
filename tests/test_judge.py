"""Point 21: one judge."""

import itertools
import random
import unittest

from slowship.air import is_tight_paper
from slowship.berths import is_ring_of
from slowship.cargo import is_missed_way, is_stuck_paper
from slowship.changes import is_undone_paper
from slowship.daily import is_airless_lap
from slowship.days import is_bad_lap
from slowship.delays import is_late_paper
from slowship.edits import edited
from slowship.errors import NoArc, NoEvent, NoNumber, NoPaper, NoRange, NoShip, NoWord, Ring, Twice, Unfit
from slowship.judge import in_run, is_paper, most_high, paper, stands, to_blame, with_high
from slowship.lean import is_deciding_way
from slowship.order import is_order_paper
from slowship.rules import is_early_way
from slowship.same import is_unlike_paper
from slowship.served import is_unsure_way
from slowship.spreads import is_late_way
from slowship.tugs import is_cover
from tests import test_berths, test_cargo, test_changes, test_daily, test_days, test_edits, test_lean, test_rules, test_served
from tests import test_tugs
from tests.support import (
    all_runs, end_runs, in_rows, judged, outcome, plain_orders, plain_told, refused, small_cases, small_pairs, spread_in,
    subsets, time_in, told,
)
from tests.test_air import air_in
from tests.test_delays import late_in

WEB = (
    ("cargo", "crane", "dock", "pilot", "sail"),
    (("c", "pilot", "cargo"), ("f", "dock", "crane"), ("g", "pilot", "dock"), ("h", "crane", "sail"), ("k", "pilot", "sail")),
)
RANGES = (("c", 3, 6), ("f", 2, 5), ("g", 1, 4), ("h", 0, 3), ("k", 4, 9))
ONE = ("ahead", WEB, RANGES, "cargo", "sail")
TWO = ("behind", WEB, "sail", WEB, ("crane",), RANGES, 5)
PLACES = {
    "behind": 5, "ahead": 2, "alike": 3, "unfelt": 2, "needless": 2, "come": 3, "tugs": 2, "change": 2, "journey": 2,
    "waits": 2, "late": 2, "air": 2, "kept": 2, "dies": 2, "safe": 2,
}
STRANGE = ("surely", "", "Ahead", "ahead ", "is_late_way", "stands")
GREAT = 10 ** 60
# For each word one that does not stand, a PAPER against it, and one that stands.
KNOWN = {
    "behind": (TWO, ("k",), (*TWO[:6], 6)),
    "ahead": (ONE, ("c",), ("ahead", WEB, RANGES, "dock", "sail")),
    "alike": (
        ("alike", test_edits.PLAN, test_edits.SLOW, test_edits.RANGES, "go"), (1, ("sail", "tide")),
        ("alike", test_edits.PLAN, test_edits.BARE, test_edits.RANGES, "go")),
    "unfelt": (
        ("unfelt", test_edits.PLAN, test_edits.RANGES, (("move", "tide", "dock", "go"),), ("dock", "go")),
        ("go", (1, ("sail", "tide"))),
        ("unfelt", test_edits.PLAN, test_edits.RANGES, (("out", "tide"),), ("dock", "go"))),
    "needless": (
        ("needless", test_edits.PLAN, test_edits.RANGES, "crane"), ("sail", "crane"),
        ("needless", test_edits.PLAN, test_edits.RANGES, "tide")),
    "stand": (
        ("stand", test_berths.HARBOUR, test_berths.LOOP), ("ab", "ac", "ad", "ae", "bb", "bc", "bd", "be"),
        ("stand", test_berths.HARBOUR, test_berths.ORDERS)),
    "come": (
        ("come", test_berths.HARBOUR, test_berths.ORDERS, test_served.RANGES, "west", "bess"), ("sb",),
        ("come", test_berths.HARBOUR, test_berths.ORDERS, test_served.RANGES, "east", "anna")),
    "tugs": (
        ("tugs", test_tugs.WEB, test_tugs.RANGES, test_tugs.TOWS, 2, 1), (("anna",), ()),
        ("tugs", test_tugs.WEB, test_tugs.RANGES, test_tugs.TOWS, 2, 2)),
    "change": (
        ("change", test_cargo.WEB, test_cargo.RANGES, test_cargo.CARGO, "x"), ("p",),
        ("change", test_cargo.WEB, test_cargo.RANGES, test_cargo.CARGO, "y")),
    "journey": (
        ("journey", test_cargo.WEB, test_cargo.RANGES, test_cargo.CARGO, "ox", "yak"), (("ox",), (("x", ("p",)),)),
        ("journey", test_cargo.WEB, test_cargo.RANGES, test_cargo.CARGO, "ray", "yak")),
    "waits": (
        ("waits", test_cargo.WEB, test_cargo.RANGES, test_cargo.CARGO, ("x", "y"), ("x",)), ("y", ("p", "x", "q")),
        ("waits", test_cargo.WEB, test_cargo.RANGES, test_cargo.CARGO, ("x", "y"), ("x", "y"))),
    "late": (
        ("late", test_rules.BAY, test_rules.WIDE, (("a", 2),), "f", 1), ("u", "v"),
        ("late", test_rules.BAY, test_rules.WIDE, (("a", 2),), "f", 3)),
    "air": (
        ("air", test_rules.BAY, test_rules.WIDE, "a", "f", 0), ("u", "v"),
        ("air", test_rules.BAY, test_rules.WIDE, "a", "f", -1)),
    "kept": (
        ("kept", test_days.LINE, test_days.SLOW), ("back", "work"), ("kept", test_days.LINE, test_days.FAST)),
    "dies": (
        ("dies", test_days.LINE, test_daily.TAUT, "tie"), ("back", "work"), ("dies", test_days.LINE, test_daily.CALM, "tie")),
    "safe": (
        ("safe", test_rules.BAY, test_rules.WIDE, "f", (("a", 2),)), ("w",),
        ("safe", test_rules.BAY, test_rules.NEAR, "f", (("a", 2),))),
}
DIRECT = {
    "behind": is_late_way, "ahead": is_order_paper, "alike": is_unlike_paper, "needless": is_deciding_way, "stand": is_ring_of,
    "come": is_unsure_way, "change": is_missed_way, "journey": is_stuck_paper, "waits": is_undone_paper, "late": is_late_paper,
    "air": is_tight_paper, "kept": is_bad_lap, "dies": is_airless_lap, "safe": is_early_way,
}


# What makes PROMISES of each word, at random.


def web_promises(word, chance):
    for web, ranges in small_cases(chance.random(), 40, "pqrs", "abcd"):
        one, other = chance.sample(web[0], 2)
        if word == "ahead":
            yield word, web, ranges, one, other
        if word == "needless":
            yield word, web, ranges, chance.choice(web[1])[0]
        if word == "late":
            yield word, web, ranges, ((one, chance.randint(0, 3)),), other, chance.randint(-1, 3)
        if word == "air":
            yield word, web, ranges, one, chance.choice(web[0]), chance.randint(-1, 2)
        if word == "safe":
            yield word, web, ranges, one, ((other, chance.randint(-1, 3)),)


def pair_promises(word, chance):
    for one, other, ranges in small_pairs(chance.random(), 40):
        events = tuple(sorted(chance.sample(other[0], chance.randint(1, 2))))
        event = chance.choice(one[0])
        if word == "behind":
            yield word, one, event, other, events, ranges, chance.randint(-2, 2)
        if word == "alike":
            yield word, one, other, ranges, event


def edit_promises(word, chance):
    for web, ranges in small_cases(chance.random(), 60, "pqrs", "abcd"):
        names = [row[0] for row in ranges]
        edits = tuple([test_edits.some_edit(chance, web[0], names) for _ in range(chance.randint(0, 3))])
        if test_edits.plainly_edited(web, edits)[1] is None:
            yield word, web, ranges, edits, tuple(sorted(chance.sample(web[0], chance.randint(0, 3))))


def harbour_promises(word, chance):
    for harbour, orders, ranges in test_served.cases(chance.random(), 30):
        berth, row = chance.choice(orders)
        if word == "come":
            yield word, harbour, orders, ranges, berth, chance.choice(row)
        else:
            yield word, harbour, chance.choice(plain_orders(harbour))


def tug_promises(word, chance):
    for web, ranges, tows in test_tugs.tow_cases(chance.random(), 15, 3):
        yield word, web, ranges, tows, chance.randint(0, 1), chance.randint(0, 3)


def cargo_promises(word, chance):
    for web, ranges, cargo in test_cargo.cases(chance.random(), 25, 3):
        names, ships = [row[0] for row in cargo[1]], [ride[0] for ride in cargo[0]]
        if word == "change":
            yield word, web, ranges, cargo, chance.choice(names)
        if word == "journey":
            yield word, web, ranges, cargo, chance.choice(ships), chance.choice(ships)
        if word == "waits":
            some, waits = [tuple(sorted(chance.sample(names, chance.randint(0, len(names))))) for _ in range(2)]
            if in_rows(test_changes.plainly_with(web, ranges, cargo, waits)[0][1]):
                yield word, web, ranges, cargo, some, waits


def day_promises(word, chance):
    spare = (0, 3) if word == "dies" else (-2, 3)
    for daily, ranges in test_days.cases(chance.random(), 40, "klmn", spare=spare, events="ab"):
        if word == "kept":
            yield word, daily, ranges
        elif all(test_days.plain_air(daily, ranges, arc[0]) >= 0 for arc in daily[2]):
            yield word, daily, ranges, chance.choice("ab")


MAKERS = {
    "behind": pair_promises, "ahead": web_promises, "alike": pair_promises, "unfelt": edit_promises, "needless": web_promises,
    "stand": harbour_promises, "come": harbour_promises, "tugs": tug_promises, "change": cargo_promises,
    "journey": cargo_promises, "waits": cargo_promises, "late": web_promises, "air": web_promises, "kept": day_promises,
    "dies": day_promises, "safe": web_promises,
}


def made(word, seed):
    return MAKERS[word](word, random.Random(seed))


# Whether they stand, told by trying all RUNS.


def plain_stands(promise):
    word, *args = promise
    if word in ("kept", "dies"):
        return days_stand(*promise)
    if word == "stand":
        return in_rows(plain_told(*args))
    if word in ("tugs", "change", "journey", "waits"):
        return sea_stands(word, *args)
    if word == "come":
        harbour, orders, ranges, berth, ship = args
        row = dict(orders)[berth]
        if ship == row[-1]:
            return True
        arrives = {stay[0]: stay[2][0] for stay in harbour[1] if stay[1] == berth}
        web = harbour[0][0], tuple(plain_told(harbour, orders))
        other = arrives[row[row.index(ship) + 1]]
        return all(time_in(web, run, arrives[ship]) <= time_in(web, run, other) for run in end_runs(ranges))
    ranges = promise[PLACES[word]]
    return all(stands_in(word, args, run) for run in all_runs(ranges))


def stands_in(word, args, run):
    """Whether what a PROMISE says is so in this RUN."""
    if word == "behind":
        one, event, other, events, _, number = args
        return spread_in(one, event, other, events, run) <= number
    if word == "alike":
        one, other, _, event = args
        return time_in(one, run, event) == time_in(other, run, event)
    web, _, *rest = args
    if word == "ahead":
        return time_in(web, run, rest[0]) <= time_in(web, run, rest[1])
    if word == "unfelt":
        changed = test_edits.plainly_edited(web, rest[0])[0]
        return all(time_in(web, run, event) == time_in(changed, run, event) for event in rest[1])
    if word == "needless":
        return not test_lean.is_needed(web, run, rest)
    if word == "late":
        return late_in(web, run, rest[0], rest[1]) < rest[2]
    if word == "air":
        found = air_in(web, run, rest[0], rest[1])
        return found is None or found > rest[2]
    return time_in(web, run, rest[0]) <= test_rules.plain_told(web, run, rest[1])


def days_stand(word, daily, ranges, event=None):
    if word == "dies":
        return test_daily.plain_airless(daily, ranges, event) == []
    return all(sum(test_days.plain_air(daily, ranges, name) for name in lap) >= 0 for lap in test_days.plain_laps(daily))


def sea_stands(word, web, ranges, *rest):
    if word == "tugs":
        late = test_tugs.plain_turns(web, ranges, *rest[:2])
        turns = [turn for turn in late if late[turn] <= 0]
        return min(map(len, test_tugs.rosters([tow[0] for tow in rest[0]], turns))) <= rest[2]
    if word == "waits":
        return test_changes.plainly_do(web, ranges, *rest)
    sure = test_cargo.plain_sure(web, ranges, rest[0])
    if word == "change":
        return rest[1] in sure
    return any((row[0], row[-1]) == rest[1:] for row in test_cargo.plain_journeys(rest[0], sure))


def with_ranges(promise, ranges):
    place = PLACES[promise[0]]
    return (*promise[:place], ranges, *promise[place + 1:])


def highest(ranges, names):
    return tuple([(name, low, high if name in names else low) for name, low, high in ranges])


class Judged(unittest.TestCase):
    def test_told(self):
        self.assertEqual(sorted(KNOWN), sorted([*PLACES, "stand"]))
        for word, (wrong, thing, right) in KNOWN.items():
            with self.subTest(word):
                self.assertIs(told(self, stands, wrong), False)
                self.assertIs(told(self, is_paper, wrong, thing), True)
                self.assertIs(is_paper(wrong, told(self, paper, wrong)), True)
                self.assertIs(told(self, stands, right), True)
                refused(self, NoPaper, {}, paper, right)
                self.assertIs(told(self, is_paper, right, thing), False)

    def test_things(self):
        for word, (wrong, thing, right) in KNOWN.items():
            with self.subTest(word):
                judged(self, is_paper, (wrong,), [thing], [])
                judged(self, is_paper, (right,), [], [thing])

    def test_by_trying(self):
        for word in MAKERS:
            counts = [0, 0]
            for promise in made(word, 1201):
                with self.subTest(promise):
                    counts[self.check(promise)] += 1
            self.assertGreater(min(counts), 2, word)

    def check(self, promise):
        good = plain_stands(promise)
        self.assertIs(told(self, stands, promise), good)
        if good:
            refused(self, NoPaper, {}, paper, promise)
            return True
        thing = told(self, paper, promise)
        self.assertIs(told(self, is_paper, promise, thing), True)
        word, *args = promise
        if word in DIRECT:
            self.assertIs(DIRECT[word](*args, thing), True)
        elif word == "unfelt":
            web, ranges, edits, some = args
            self.assertIn(thing[0], some)
            self.assertIs(is_unlike_paper(web, edited(web, edits), ranges, *thing), True)
        else:
            self.assertIs(is_cover(*args[:4], thing), True)
            self.assertLess(len(thing[0] + thing[1]), len(args[2]) - args[4])
        return False

    def test_no_paper_where_it_stands(self):
        # Papers of others of the same word are none against what stands.
        for word in MAKERS:
            things = [outcome(paper, (promise,), {})[1] for promise in made(word, 1202)]
            for promise in itertools.islice(made(word, 1202), 12):
                if stands(promise):
                    for thing in things:
                        self.assertIs(is_paper(promise, thing) if thing != NoPaper else False, False)

    def test_covers(self):
        promise = KNOWN["tugs"][0]
        self.assertIs(told(self, is_paper, promise, ((), ("cora",))), True)
        self.assertIs(told(self, is_paper, promise, (("anna",), ("cora",))), False)
        self.assertIs(told(self, is_paper, promise, ((), ())), False)
        self.assertIs(told(self, is_paper, (*promise[:5], 0), (("anna",), ("cora",))), True)
        self.assertIs(told(self, is_paper, (*promise[:5], 0), (("anna", "bess"), ("cora",))), False)
        self.assertIs(told(self, is_paper, (*promise[:5], -1), (("anna", "bess"), ("cora",))), True)

    def test_edges(self):
        self.assertIs(told(self, stands, ("unfelt", *KNOWN["unfelt"][0][1:4], ())), True)
        self.assertIs(told(self, is_paper, ("unfelt", *KNOWN["unfelt"][0][1:4], ("dock",)), KNOWN["unfelt"][1]), False)
        self.assertIs(told(self, is_paper, KNOWN["unfelt"][0], ("dock", (1, ("sail", "tide")))), False)
        # No ARCS lead from f to a: there is no AIR that can be too little.
        for number in (-GREAT, 0, GREAT):
            self.assertIs(told(self, stands, ("air", test_rules.BAY, test_rules.WIDE, "f", "a", number)), True)
        self.assertIs(told(self, stands, ("air", test_rules.BAY, test_rules.WIDE, "a", "a", 0)), False)
        self.assertIs(told(self, stands, ("late", test_rules.BAY, test_rules.WIDE, (), "f", 0)), False)
        self.assertIs(told(self, stands, ("late", test_rules.BAY, test_rules.WIDE, (), "f", 1)), True)
        self.assertIs(told(self, stands, ("come", *KNOWN["come"][0][1:4], "west", "anna")), True)
        self.assertIs(told(self, stands, ("journey", *KNOWN["journey"][0][1:4], "ox", "ox")), True)
        self.assertIs(told(self, stands, ("waits", *KNOWN["waits"][0][1:4], (), ())), True)


class Highs(unittest.TestCase):
    def test_told(self):
        self.assertIs(stands(told(self, with_high, ONE, "c", 4)), True)
        self.assertEqual(told(self, with_high, ONE, "c", 4)[2][0], ("c", 3, 4))
        self.assertEqual(told(self, most_high, ONE, "c", 9), 4)
        self.assertEqual(told(self, most_high, TWO, "k", 100), 8)
        refused(self, NoNumber, {"number": 2}, with_high, ONE, "c", 2)

    def test_edges(self):
        # A high less, a high more, the very low, the one that it has.
        for high in (3, 4, 6, 7, GREAT):
            changed = (("c", 3, high), *RANGES[1:])
            self.assertEqual(told(self, with_high, ONE, "c", high), ("ahead", WEB, changed, "cargo", "sail"))
        self.assertEqual(told(self, most_high, ONE, "c", 3), 3)
        self.assertEqual(told(self, most_high, ONE, "c", 4), 4)
        self.assertEqual(told(self, most_high, ONE, "c", 5), 4)
        self.assertEqual(told(self, most_high, TWO, "k", GREAT), 8)
        self.assertIsNone(told(self, most_high, ONE, "k", 50))
        self.assertEqual(told(self, most_high, ("ahead", WEB, RANGES, "dock", "sail"), "g", GREAT), GREAT)
        # A name that no ARC has.
        more = ("ahead", WEB, (*RANGES, ("z", 5, 5)), "dock", "sail")
        self.assertEqual(told(self, most_high, more, "z", 2 ** 70), 2 ** 70)
        self.assertEqual(told(self, with_high, more, "z", 6)[2][-1], ("z", 5, 6))

    def test_each_word(self):
        for word, place in PLACES.items():
            for promise in itertools.islice(made(word, 1203), 6):
                for name, low, high in promise[place]:
                    changed = told(self, with_high, promise, name, low + 1)
                    rows = [(name, low, low + 1) if row[0] == name else row for row in promise[place]]
                    self.assertEqual(changed, with_ranges(promise, tuple(rows)))
                    refused(self, NoNumber, {"number": low - 1}, with_high, promise, name, low - 1)
                    refused(self, NoRange, {"name": name + "x"}, with_high, promise, name + "x", low - 1)
                    if word == "dies":
                        refused(self, Unfit, {}, most_high, promise, name, low)
                        continue
                    good = [top for top in range(low, low + 5) if plain_stands(with_high(promise, name, top))]
                    self.assertEqual(good, list(range(low, low + len(good))))
                    self.assertEqual(told(self, most_high, promise, name, low + 4), good[-1] if good else None)
                    refused(self, NoNumber, {"number": low - 1}, most_high, promise, name, low - 1)
                    refused(self, NoRange, {"name": name + "x"}, most_high, promise, name + "x", low - 1)


class Runs(unittest.TestCase):
    def test_told(self):
        run = (("c", 3), ("f", 2), ("g", 1), ("h", 3), ("k", 9))
        changed = told(self, in_run, TWO, run)
        self.assertEqual(changed[5], tuple([(name, length, length) for name, length in run]))
        self.assertIs(told(self, stands, changed), False)
        self.assertEqual(told(self, in_run, TWO, (("b", 1), *run, ("z", 0))), changed)
        refused(self, NoRange, {"name": "f"}, in_run, TWO, (("c", 3), ("h", 3), ("k", 9)))
        refused(self, NoRange, {"name": "c"}, in_run, TWO, ())
        self.assertEqual(told(self, in_run, ("ahead", ((), ()), (), "a", "b"), run), ("ahead", ((), ()), (), "a", "b"))

    def test_each_word(self):
        # It stands FOR ALL RUNS exactly if it does so in each one; but in each one other tugs, other journeys can do.
        for word, place in PLACES.items():
            for promise in itertools.islice(made(word, 1204), 6):
                runs = end_runs(promise[place])
                found = [stands(in_run(promise, run)) for run in runs]
                if word not in ("tugs", "journey"):
                    self.assertIs(all(found), stands(promise))
                elif stands(promise):
                    self.assertTrue(all(found))
                told(self, in_run, promise, runs[0])


class Blamed(unittest.TestCase):
    def test_told(self):
        self.assertEqual(told(self, to_blame, ONE), ("c",))
        self.assertEqual(told(self, to_blame, TWO), ("k",))
        self.assertIsNone(told(self, to_blame, with_high(ONE, "c", 4)))
        self.assertEqual(told(self, to_blame, KNOWN["stand"][0]), ())
        self.assertIsNone(told(self, to_blame, KNOWN["stand"][2]))
        # Not even with all at low.
        self.assertEqual(told(self, to_blame, ("ahead", WEB, RANGES, "sail", "dock")), ())

    def test_both(self):
        # b or c alone is enough for 4; from 5 on a with one of them, then both; at 10 just all three.
        web = (("v", "w", "x", "y", "z"), (("a", "v", "w"), ("b", "w", "x"), ("c", "x", "y"), ("d", "v", "z")))
        ranges = (("a", 0, 2), ("b", 0, 5), ("c", 0, 5), ("d", 0, 9))
        expected = {4: ("b",), 5: ("a", "b"), 6: ("a", "b"), 7: ("b", "c"), 9: ("b", "c"), 10: ("a", "b", "c"), 12: None}
        for number, names in expected.items():
            self.assertEqual(told(self, to_blame, ("behind", web, "y", web, ("z",), ranges, number)), names)

    def test_each_word(self):
        for word in MAKERS:
            sizes = set()
            for promise in itertools.islice(made(word, 1205), 12):
                if plain_stands(promise):
                    self.assertIsNone(told(self, to_blame, promise))
                    continue
                if word == "stand":
                    self.assertEqual(told(self, to_blame, promise), ())
                    continue
                ranges = promise[PLACES[word]]
                wide = [name for name, low, high in ranges if high > low]
                rows = [names for names in subsets(wide) if not plain_stands(with_ranges(promise, highest(ranges, names)))]
                found = told(self, to_blame, promise)
                self.assertEqual(found, min(rows, key=lambda names: (len(names), names)), promise)
                sizes.add(len(found))
            self.assertTrue(sizes or word == "stand", word)

    def test_eight_names(self):
        names = "abcdefgh"
        events = tuple("mnopqrstu")
        web = events, tuple([(name, one, other) for name, one, other in zip(names, events, events[1:])])
        ranges = tuple([(name, 0, 1) for name in names])
        for number in range(9):
            expected = tuple(names[:number + 1]) if number < 8 else None
            self.assertEqual(told(self, to_blame, ("behind", web, "u", web, ("m",), ranges, number)), expected)


class Wrong(unittest.TestCase):
    def test_no_word(self):
        for word in STRANGE:
            kept = {"word": word}
            for promise in ((word,), (word, WEB), (word, *ONE[1:])):
                for function in (stands, paper, to_blame):
                    refused(self, NoWord, kept, function, promise)
                for thing in (None, (), ("c",), [[]]):
                    refused(self, NoWord, kept, is_paper, promise, thing)
                refused(self, NoWord, kept, with_high, promise, "none", -1)
                refused(self, NoWord, kept, most_high, promise, "none", -1)
                refused(self, NoWord, kept, in_run, promise, ())

    def test_unfit(self):
        for promise in KNOWN["stand"][0], KNOWN["stand"][2]:
            refused(self, Unfit, {}, with_high, promise, "none", -1)
            refused(self, Unfit, {}, most_high, promise, "none", -1)
            refused(self, Unfit, {}, in_run, promise, ())
        for promise in KNOWN["dies"][0], KNOWN["dies"][2]:
            refused(self, Unfit, {}, most_high, promise, "none", -1)
            refused(self, NoRange, {"name": "none"}, with_high, promise, "none", -1)
            self.assertEqual(told(self, with_high, promise, "work", 99)[2][1], ("work", 10, 99))

    def test_asks_none(self):
        # with_high and in_run ask none of the functions: so nothing else can be amiss.
        lack = ("ahead", WEB, (("c", 3, 6),), "none", "no")
        self.assertEqual(told(self, with_high, lack, "c", 9), ("ahead", WEB, (("c", 3, 9),), "none", "no"))
        self.assertEqual(told(self, in_run, lack, (("c", 8),)), ("ahead", WEB, (("c", 8, 8),), "none", "no"))
        refused(self, NoRange, {"name": "f"}, most_high, lack, "c", 9)
        refused(self, NoRange, {"name": "zz"}, most_high, lack, "zz", 9)
        refused(self, NoNumber, {"number": 2}, most_high, lack, "c", 2)

    def test_of_the_functions(self):
        short = RANGES[:2]
        rows = [
            (NoRange, {"name": "g"}, ("behind", WEB, "none", WEB, ("no",), short, 5)),
            (NoEvent, {"event": "none"}, ("behind", WEB, "none", WEB, ("no",), RANGES, 5)),
            (NoRange, {"name": "g"}, ("ahead", WEB, short, "none", "no")),
            (NoEvent, {"event": "no"}, ("ahead", WEB, RANGES, "sail", "no")),
            (NoRange, {"name": "g"}, ("alike", WEB, WEB, short, "none")),
            (NoEvent, {"event": "none"}, ("alike", WEB, WEB, RANGES, "none")),
            (NoRange, {"name": "z"}, ("unfelt", WEB, RANGES, (("put", "z", "a", "b"),), ("none",))),
            (Twice, {"name": "c"}, ("unfelt", WEB, RANGES, (("put", "c", "a", "b"),), ("none",))),
            (NoEvent, {"event": "none"}, ("unfelt", WEB, RANGES, (), ("none",))),
            (NoRange, {"name": "g"}, ("needless", WEB, short, "none")),
            (NoArc, {"name": "none"}, ("needless", WEB, RANGES, "none")),
            (Ring, {}, ("come", test_berths.HARBOUR, test_berths.LOOP, (), "quay", "none")),
            (NoRange, {"name": "ga"}, ("come", test_berths.HARBOUR, test_berths.ORDERS, (), "quay", "none")),
            (NoShip, {"name": "none"}, ("come", test_berths.HARBOUR, test_berths.ORDERS, test_served.RANGES, "west", "none")),
            (NoRange, {"name": "a"}, ("tugs", test_tugs.WEB, (), test_tugs.TOWS, 2, 1)),
            (NoRange, {"name": "b"}, ("change", test_cargo.WEB, (), test_cargo.CARGO, "none")),
            (NoArc, {"name": "none"}, ("change", test_cargo.WEB, test_cargo.RANGES, test_cargo.CARGO, "none")),
            (NoRange, {"name": "b"}, ("journey", test_cargo.WEB, (), test_cargo.CARGO, "none", "no")),
            (NoShip, {"name": "none"}, ("journey", test_cargo.WEB, test_cargo.RANGES, test_cargo.CARGO, "none", "no")),
            (NoRange, {"name": "b"}, ("waits", test_cargo.WEB, (), test_cargo.CARGO, ("none",), ("no",))),
            (NoArc, {"name": "none"}, ("waits", test_cargo.WEB, test_cargo.RANGES, test_cargo.CARGO, ("none",), ("no",))),
            (Ring, {}, ("waits", test_cargo.WEB, test_cargo.RANGES, test_cargo.BACK, (), ("x", "y", "z"))),
            (NoRange, {"name": "g"}, ("late", WEB, short, (("none", 1),), "no", 1)),
            (NoEvent, {"event": "none"}, ("late", WEB, RANGES, (("none", 1),), "no", 1)),
            (NoRange, {"name": "g"}, ("air", WEB, short, "none", "no", 1)),
            (NoEvent, {"event": "none"}, ("air", WEB, RANGES, "none", "no", 1)),
            (NoRange, {"name": "back"}, ("kept", test_days.LINE, ())),
            (NoRange, {"name": "back"}, ("dies", test_days.LINE, (), "none")),
            (NoEvent, {"event": "none"}, ("dies", test_days.LINE, test_days.SLOW, "none")),
            (Unfit, {}, ("dies", test_days.LINE, test_days.SLOW, "tie")),
            (NoRange, {"name": "g"}, ("safe", WEB, short, "none", (("no", 1),))),
            (NoEvent, {"event": "none"}, ("safe", WEB, RANGES, "none", (("no", 1),))),
        ]
        for error, kept, promise in rows:
            with self.subTest(promise):
                for function in (stands, paper, to_blame):
                    refused(self, error, kept, function, promise)
                for thing in (None, (), ("c",), [[]], (("anna",), ())):
                    refused(self, error, kept, is_paper, promise, thing)
        self.assertEqual({row[2][0] for row in rows}, set(PLACES))


if __name__ == "__main__":
    unittest.main()

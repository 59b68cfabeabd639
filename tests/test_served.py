"""Point 12: first come, first served."""

import random
import unittest

from slowship.berths import all_orders
from slowship.errors import NoRange, NoShip, Ring
from slowship.served import (
    come_always, do_come, first_come, held, is_unsure_way, must_be_told, unsure_pairs, unsure_way,
)
from slowship.times import slow_run
from tests.support import (
    all_runs, end_runs, in_rows, judged, length_in, plain_orders, plain_told, refused, slow, some_harbour, subsets,
    time_in, told, ways_in,
)
from tests.test_berths import BARE, HARBOUR, LONE, LOOP, ORDERS, PORT, STUCK, many_ships

RANGES = (
    ("ga", 1, 1), ("gb", 1, 1), ("ha", 1, 1), ("hb", 1, 1), ("ma", 0, 0), ("mb", 0, 0), ("na", 0, 0), ("nb", 0, 0),
    ("sa", 2, 5), ("sb", 3, 6), ("wa", 1, 4), ("wb", 2, 3), ("xa", 2, 2), ("xb", 2, 2),
)
RUN = slow_run(RANGES, ("sb",))
ALONE = (("quay", ("ship",)),)
KNOT = (
    (("aa", "ab", "ac", "ad", "ae", "af", "ba", "bb", "bc", "bd", "be", "bf"),
     (("ka", "aa", "ab"), ("kb", "ab", "ac"), ("kc", "ac", "ad"), ("kd", "ad", "ae"), ("ke", "ad", "af"),
      ("la", "ba", "bb"), ("lb", "bb", "bc"), ("lc", "bc", "bd"), ("ld", "bd", "be"), ("le", "bd", "bf"))),
    (("anna", "east", ("aa", "ab", "ae"), "ga"), ("anna", "west", ("ac", "ad", "af"), "ha"),
     ("bess", "east", ("bc", "bd", "bf"), "hb"), ("bess", "west", ("ba", "bb", "be"), "gb")),
)
GREAT = 10 ** 60


def harbour_ranges(chance, harbour, wide=4):
    """RANGES in which only some lengths vary; ARCS away from an EVENT enters take 1 or more."""
    enters = {stay[2][1] for stay in harbour[1]}
    lows = {name: 1 if ahead in enters else 0 for name, ahead, _ in harbour[0][1]}
    lows.update({stay[3]: 0 for stay in harbour[1]})
    varied = chance.sample(sorted(lows), min(wide, len(lows)))
    rows = []
    for name in sorted(lows):
        low = lows[name] + chance.randint(0, 2)
        rows.append((name, low, low + chance.randint(1, 3) if name in varied else low))
    return tuple(rows)


def cases(seed, many):
    """HARBOURS with ORDERS that stand and RANGES."""
    chance = random.Random(seed)
    for _ in range(many):
        harbour = some_harbour(chance, ("anna", "bess", "cora")[:chance.choice((2, 3))], ["east", "west"],
                               chance.randint(0, 3))
        good = [orders for orders in plain_orders(harbour) if in_rows(plain_told(harbour, orders))]
        if good:
            yield harbour, chance.choice(good), harbour_ranges(chance, harbour)


def may_enter(stay, row, stays, times, lengths, moment):
    """Whether all that this STAY waits for at its berth is over at the moment."""
    ship, berth, (arrives, _, _), _ = stay
    name = lengths["into", stay]
    if arrives not in times or times[arrives] + lengths[name] > moment or ship not in row:
        return False
    if row[0] == ship:
        return True
    _, _, (_, _, clears), gap = stays[row[row.index(ship) - 1], berth]
    return clears in times and times[clears] + lengths[gap] <= moment


def played(harbour, orders, run, some):
    """What happens moment by moment: the rows and the times of the EVENTS, or None."""
    web, listed = harbour
    stays = {stay[:2]: stay for stay in listed}
    lengths = dict(run)
    into = {event: [arc for arc in web[1] if arc[2] == event] for event in web[0]}
    enters = {stay[2][1]: stay for stay in listed}
    for event, stay in enters.items():
        lengths["into", stay] = into[event][0][0]
    rows = {berth: list(row) if berth in some else [] for berth, row in orders}
    times = {}
    for moment in range(sum(length for _, length in run) + 1):
        # Lengths may be 0: so one look at all EVENTS is not enough.
        for _ in web[0]:
            for event in web[0]:
                if event not in times and event not in enters:
                    if all(ahead in times and times[ahead] + lengths[name] <= moment for name, ahead, _ in into[event]):
                        times[event] = moment
        for berth, row in orders:
            for ship in row:
                if ship not in rows[berth] and times.get(stays[ship, berth][2][0]) == moment:
                    rows[berth].append(ship)
        for event, stay in enters.items():
            if event not in times and may_enter(stay, rows[stay[1]], stays, times, lengths, moment):
                times[event] = moment
    if len(times) < len(web[0]):
        return None
    return tuple([(berth, tuple(row)) for berth, row in sorted(rows.items())]), tuple(sorted(times.items()))


def arrivals(harbour, orders):
    """The EVENTS arrives of all neighbours, by (berth, ahead, behind), and the told WEB."""
    at = {stay[:2]: stay[2][0] for stay in harbour[1]}
    pairs = {(berth, one, other): (at[one, berth], at[other, berth])
             for berth, row in orders for one, other in zip(row, row[1:])}
    return dict(sorted(pairs.items())), (harbour[0][0], tuple(plain_told(harbour, orders)))


class Coming(unittest.TestCase):
    def test_told(self):
        came = told(self, first_come, HARBOUR, ORDERS, RUN, ())
        self.assertEqual(came[0], (("east", ("anna", "bess")), ("west", ("anna", "bess"))))
        self.assertEqual(came[1][4], ("ae", 5))
        self.assertEqual(told(self, first_come, HARBOUR, ORDERS, RUN, ("west",))[0], ORDERS)
        self.assertIs(told(self, do_come, HARBOUR, ORDERS, RUN, ("east",)), False)
        self.assertIs(told(self, do_come, HARBOUR, ORDERS, RUN, ("west",)), True)
        self.assertIs(told(self, do_come, HARBOUR, ORDERS, RUN, ("east", "west")), True)

    def test_edges(self):
        times = tuple(sorted([(event, time_in(PORT, RUN, event)) for event in PORT[0]]))
        self.assertEqual(told(self, first_come, BARE, (), RUN, ()), ((), times))
        self.assertIs(told(self, do_come, BARE, (), RUN, ()), True)
        run = (("x", 2), ("y", GREAT), ("z", 0))
        came = ALONE, (("a", 0), ("b", 2), ("c", GREAT + 2))
        self.assertEqual(told(self, first_come, LONE, ALONE, run, ()), came)
        self.assertEqual(told(self, first_come, LONE, ALONE, run, ("quay",)), came)

    def test_at_one_moment(self):
        web = (("a", "b", "c", "d", "e", "o"),
               (("ia", "o", "a"), ("ib", "a", "b"), ("ic", "b", "c"), ("id", "a", "d"), ("ie", "d", "e")))
        harbour = (web, (("x", "quay", ("a", "b", "c"), "gx"), ("y", "quay", ("a", "d", "e"), "gy")))
        run = (("gx", 0), ("gy", 0), ("ia", 1), ("ib", 0), ("ic", 1), ("id", 0), ("ie", 1))
        for row in (("x", "y"), ("y", "x")):
            for some in ((), ("quay",)):
                came = told(self, first_come, harbour, (("quay", row),), run, some)
                self.assertEqual(came[0], (("quay", row),))
                self.assertEqual(dict(came[1])["c" if row[0] == "x" else "e"], 2)
                self.assertEqual(dict(came[1])["e" if row[0] == "x" else "c"], 3)

    def test_standing_still(self):
        # Each one is first where it comes first, and clears there behind coming in where the other one is.
        run = tuple([(name, 1) for name in sorted([*[arc[0] for arc in KNOT[0][1]], "ga", "gb", "ha", "hb"])])
        for orders in all_orders(KNOT):
            for some in ((), ("east",), ("west",)):
                self.assertEqual(first_come(KNOT, orders, run, some), played(KNOT, orders, run, some))
            self.assertIs(told(self, first_come, KNOT, orders, run, ()), None)
            self.assertIs(told(self, do_come, KNOT, orders, run, ()), False)
            self.assertIs(told(self, do_come, KNOT, orders, run, ("east", "west")), True)
            self.assertEqual(told(self, first_come, KNOT, orders, run, ("east", "west"))[0], orders)
        self.assertEqual(len(all_orders(KNOT)), 2)

    def test_by_trying(self):
        still = others = 0
        for harbour, orders, ranges in cases(301, 30):
            berths = sorted({stay[1] for stay in harbour[1]})
            for run in end_runs(ranges):
                for some in subsets(berths):
                    came = first_come(harbour, orders, run, some)
                    self.assertEqual(came, played(harbour, orders, run, some))
                    self.assertIs(do_come(harbour, orders, run, some), came is not None and came[0] == orders)
                    still += came is None
                    others += came is not None and came[0] != orders
        self.assertGreater(still, 50)
        self.assertGreater(others, 200)

    def test_guarantee(self):
        for harbour, orders, ranges in cases(302, 12):
            pairs, web = arrivals(harbour, orders)
            for run in end_runs(ranges):
                times = {event: time_in(web, run, event) for event in web[0]}
                for some in subsets([berth for berth, _ in orders]):
                    fine = all(times[one] <= times[other] for (berth, _, _), (one, other) in pairs.items()
                               if berth not in some)
                    self.assertIs(told(self, do_come, harbour, orders, run, some), fine)
                    if fine:
                        self.assertEqual(first_come(harbour, orders, run, some)[1], tuple(sorted(times.items())))


class Sure(unittest.TestCase):
    def test_told(self):
        self.assertEqual(told(self, unsure_pairs, HARBOUR, ORDERS, RANGES), [("west", "bess", "anna")])
        self.assertEqual(told(self, must_be_told, HARBOUR, ORDERS, RANGES), ("west",))
        self.assertIs(told(self, come_always, HARBOUR, ORDERS, RANGES, ("west",)), True)
        self.assertIs(told(self, come_always, HARBOUR, ORDERS, RANGES, ("east", "west")), True)
        self.assertIs(told(self, come_always, HARBOUR, ORDERS, RANGES, ("east",)), False)
        self.assertIs(told(self, come_always, HARBOUR, ORDERS, RANGES, ()), False)
        rows = (("east", "anna", "bess", 0), ("west", "bess", "anna", 3))
        self.assertEqual(told(self, held, HARBOUR, ORDERS, RANGES), rows)
        self.assertEqual(told(self, unsure_way, HARBOUR, ORDERS, RANGES, "west", "bess"), ("sb",))
        self.assertIs(told(self, unsure_way, HARBOUR, ORDERS, RANGES, "west", "anna"), None)
        self.assertIs(told(self, unsure_way, HARBOUR, ORDERS, RANGES, "east", "anna"), None)

    def test_edges(self):
        for harbour, orders, ranges in ((BARE, (), RANGES), (LONE, ALONE, (("x", 0, 1), ("y", 1, 1)))):
            self.assertEqual(told(self, unsure_pairs, harbour, orders, ranges), [])
            self.assertEqual(told(self, must_be_told, harbour, orders, ranges), ())
            self.assertIs(told(self, come_always, harbour, orders, ranges, ()), True)
            self.assertEqual(told(self, held, harbour, orders, ranges), ())
        self.assertIs(told(self, unsure_way, LONE, ALONE, (("x", 0, 1), ("y", 1, 1)), "quay", "ship"), None)
        self.assertIs(told(self, come_always, LONE, ALONE, (("x", 0, 1), ("y", 1, 1)), ("quay",)), True)
        # Below 0 is told as 0: bess is never behind here.
        ranges = tuple([(name, 90, 90) if name == "sa" else (name, low, high) for name, low, high in RANGES])
        self.assertEqual(told(self, held, HARBOUR, ORDERS, ranges)[1], ("west", "bess", "anna", 0))

    def test_great_numbers(self):
        ranges = tuple([(name, 3, GREAT) if name == "sb" else (name, low, high) for name, low, high in RANGES])
        self.assertEqual(told(self, held, HARBOUR, ORDERS, ranges)[1], ("west", "bess", "anna", GREAT - 3))

    def test_by_trying(self):
        unsure = 0
        for harbour, orders, ranges in cases(303, 40):
            pairs, web = arrivals(harbour, orders)
            runs = [{event: time_in(web, run, event) for event in web[0]} for run in all_runs(ranges)]
            most = {triple: max(row[one] - row[other] for row in runs) for triple, (one, other) in pairs.items()}
            bad = [triple for triple in pairs if most[triple] > 0]
            self.assertEqual(told(self, unsure_pairs, harbour, orders, ranges), bad)
            told_berths = tuple(sorted({berth for berth, _, _ in bad}))
            self.assertEqual(told(self, must_be_told, harbour, orders, ranges), told_berths)
            rows = tuple([(*row, max(0, most[row])) for row in pairs])
            self.assertEqual(told(self, held, harbour, orders, ranges), rows)
            for some in subsets([berth for berth, _ in orders]):
                fine = all(berth in some for berth in told_berths)
                self.assertIs(told(self, come_always, harbour, orders, ranges, some), fine)
            unsure += len(bad)
        self.assertGreater(unsure, 15)

    def test_come_always_by_trying(self):
        for harbour, orders, ranges in cases(304, 12):
            for some in subsets([berth for berth, _ in orders]):
                fine = all(do_come(harbour, orders, run, some) for run in end_runs(ranges))
                self.assertIs(come_always(harbour, orders, ranges, some), fine)

    def test_ways_by_trying(self):
        late = 0
        for harbour, orders, ranges in cases(305, 25):
            pairs, web = arrivals(harbour, orders)
            behind = {(berth, one): events for (berth, one, _), events in pairs.items()}
            for ship, berth, (arrives, _, _), _ in harbour[1]:
                way = told(self, unsure_way, harbour, orders, ranges, berth, ship)
                good = []
                for one in ways_in(web, arrives):
                    run = slow(ranges, one)
                    if (berth, ship) in behind and length_in(run, one) > time_in(web, run, behind[berth, ship][1]):
                        good.append(one)
                    self.assertIs(is_unsure_way(harbour, orders, ranges, berth, ship, one), one in good)
                self.assertIs(way is None, good == [])
                self.assertTrue(way is None or way in good)
                late += len(good)
        self.assertGreater(late, 15)

    def test_judged(self):
        bad = [("sa",), (), ("sb", "mb"), ("mb",), ("sb", "sb"), ("zz",)]
        judged(self, is_unsure_way, (HARBOUR, ORDERS, RANGES, "west", "bess"), [("sb",)], bad)
        judged(self, is_unsure_way, (HARBOUR, ORDERS, RANGES, "west", "anna"), [], [("sa", "ma", "wa"), *bad])
        judged(self, is_unsure_way, (HARBOUR, ORDERS, RANGES, "east", "anna"), [], [("sa",), *bad])

    def test_three_at_three_berths(self):
        harbour = many_ships(3, ["east", "north", "west"])
        orders = tuple([(berth, ("a", "b", "c")) for berth in ("east", "north", "west")])
        names = sorted([*[arc[0] for arc in harbour[0][1]], *[stay[3] for stay in harbour[1]]])
        ranges = tuple([(name, 1, 9) for name in names])
        self.assertEqual(told(self, must_be_told, harbour, orders, ranges), ("east", "north", "west"))
        # From dawn each one comes by itself; later on b comes behind a gap, a stay and its way, 1 each at the least.
        self.assertEqual([row[3] for row in held(harbour, orders, ranges)], [8, 8, 6, 6, 6, 6])
        calm = tuple([(name, 1, 1) for name in names])
        self.assertEqual(told(self, must_be_told, harbour, orders, calm), ())


class Wrong(unittest.TestCase):
    def test_ring(self):
        refused(self, Ring, {}, first_come, HARBOUR, LOOP, RUN, ())
        refused(self, Ring, {}, first_come, HARBOUR, LOOP, RUN, ("east", "west"))
        refused(self, Ring, {}, do_come, HARBOUR, LOOP, RUN, ())
        for function in (unsure_pairs, must_be_told, held):
            refused(self, Ring, {}, function, HARBOUR, LOOP, ())
        refused(self, Ring, {}, come_always, HARBOUR, LOOP, (), ())
        refused(self, Ring, {}, unsure_way, HARBOUR, LOOP, (), "home", "nobody")
        for thing in (None, ("sb",), [[]]):
            refused(self, Ring, {}, is_unsure_way, HARBOUR, LOOP, (), "home", "nobody", thing)
        refused(self, Ring, {}, first_come, STUCK, plain_orders(STUCK)[0], (), ("quay",))

    def test_no_range(self):
        # Gaps of those ahead are ARCS of the told WEB; nobody waits for the others.
        for lack in ("ga", "gb", "ma", "xb"):
            ranges = tuple([row for row in RANGES if row[0] != lack])
            for function in (unsure_pairs, must_be_told, held):
                refused(self, NoRange, {"name": lack}, function, HARBOUR, ORDERS, ranges)
            refused(self, NoRange, {"name": lack}, come_always, HARBOUR, ORDERS, ranges, ())
            refused(self, NoRange, {"name": lack}, unsure_way, HARBOUR, ORDERS, ranges, "home", "nobody")
            for thing in (None, ("sb",), [[]]):
                refused(self, NoRange, {"name": lack}, is_unsure_way, HARBOUR, ORDERS, ranges, "home", "nobody", thing)
        refused(self, NoRange, {"name": "ga"}, held, HARBOUR, ORDERS, ())
        fewer = tuple([row for row in RANGES if row[0] not in ("ha", "hb")])
        self.assertEqual(told(self, must_be_told, HARBOUR, ORDERS, fewer), ("west",))

    def test_no_ship(self):
        half = (PORT, (*HARBOUR[1][:1], *HARBOUR[1][2:]))
        rows = (("east", ("anna", "bess")), ("west", ("bess",)))
        for harbour, orders, berth, ship in ((HARBOUR, ORDERS, "west", "cora"), (HARBOUR, ORDERS, "home", "anna"),
                                             (half, rows, "west", "anna"), (HARBOUR, ORDERS, "anna", "west")):
            refused(self, NoShip, {"name": ship}, unsure_way, harbour, orders, RANGES, berth, ship)
            for thing in (None, ("sb",), [[]]):
                refused(self, NoShip, {"name": ship}, is_unsure_way, harbour, orders, RANGES, berth, ship, thing)
        self.assertIs(told(self, unsure_way, half, rows, RANGES, "west", "bess"), None)


if __name__ == "__main__":
    unittest.main()

"""Point 11: berths."""

import itertools
import random
import unittest

from slowship.berths import (
    a_ring, all_orders, calls, forced, how_many_orders, is_harbour, is_orders, is_ring_of, neighbours, nth_orders,
    stand, told_web,
)
from slowship.errors import NoNumber, NoShip, Ring
from slowship.webs import is_web, with_arc
from tests.support import in_rows, judged, plain_orders, plain_told, refused, some_harbour, told
from tests.test_webs import EMPTY

PORT = (
    ("aa", "ab", "ac", "ad", "ae", "ba", "bb", "bc", "bd", "be", "dawn"),
    (("ma", "aa", "ab"), ("mb", "ba", "bb"), ("na", "ac", "ad"), ("nb", "bc", "bd"), ("sa", "dawn", "aa"),
     ("sb", "dawn", "ba"), ("wa", "ab", "ac"), ("wb", "bb", "bc"), ("xa", "ad", "ae"), ("xb", "bd", "be")),
)
ANNA = (("anna", "east", ("aa", "ab", "ac"), "ga"), ("anna", "west", ("ac", "ad", "ae"), "ha"))
BESS = (("bess", "east", ("bc", "bd", "be"), "hb"), ("bess", "west", ("ba", "bb", "bc"), "gb"))
HARBOUR = (PORT, (*ANNA, *BESS))
ORDERS = (("east", ("anna", "bess")), ("west", ("bess", "anna")))
LOOP = (("east", ("bess", "anna")), ("west", ("anna", "bess")))
BARE = (PORT, ())
# One ship alone at a berth.
LONE = ((("a", "b", "c"), (("x", "a", "b"), ("y", "b", "c"))), (("ship", "quay", ("a", "b", "c"), "z"),))
# Each clears comes behind the other ship's enters: nobody can be first.
STUCK = (
    (("aa", "ab", "ac", "ba", "bb", "bc"),
     (("p", "aa", "ab"), ("q", "ab", "ac"), ("r", "ab", "bc"), ("s", "ba", "bb"), ("t", "bb", "bc"),
      ("u", "bb", "ac"))),
    (("a", "quay", ("aa", "ab", "ac"), "ga"), ("b", "quay", ("ba", "bb", "bc"), "gb")),
)


def many_ships(count, berths):
    """Ships that call at each berth, one behind another, all from dawn: so many EVENTS of each."""
    events, arcs, stays = ["dawn"], [], []
    for ship in "abcdefgh"[:count]:
        here = "dawn"
        for place, berth in enumerate(berths):
            row = [ship + "pqrstuvwxyz"[3 * place + step] for step in range(3)]
            events.extend(row)
            arcs.extend([("i" + row[0], here, row[0]), ("i" + row[1], row[0], row[1]), ("i" + row[2], row[1], row[2])])
            stays.append((ship, berth, tuple(row), "g" + row[0]))
            here = row[2]
    return (tuple(sorted(events)), tuple(sorted(arcs))), tuple(sorted(stays))


def all_rings(harbour, orders):
    """All RINGS of the ORDERS, by trying all rows of unlike EVENTS."""
    steps = {}
    for _, ahead, behind in plain_told(harbour, orders):
        steps.setdefault(ahead, set()).add(behind)
    rows = [(event,) for event in harbour[0][0]]
    found = []
    while rows:
        found.extend([row for row in rows if row[0] in steps.get(row[-1], ())])
        rows = [(*row, event) for row in rows for event in steps.get(row[-1], ())
                if event > row[0] and event not in row]
    return found


def cases(seed, many):
    chance = random.Random(seed)
    for _ in range(many):
        yield some_harbour(chance, ("anna", "bess", "cora")[:chance.choice((2, 3))], ["east", "west"],
                           chance.randint(0, 4))


class Harbours(unittest.TestCase):
    def test_good(self):
        judged(self, is_harbour, (), [HARBOUR, LONE, (EMPTY, ()), ((("a",), ()), ())], [])
        good = [BARE, STUCK, (EMPTY, ()), (PORT, ANNA), (PORT, BESS[1:]), many_ships(8, ["e", "n", "w"])]
        for harbour in [*good, *cases(201, 30)]:
            self.assertIs(told(self, is_harbour, harbour), True)

    def test_shared_events(self):
        # arrives of one may be arrives of another one, clears that of another one.
        web = (("a", "b", "c", "d"), (("p", "a", "b"), ("q", "a", "c"), ("r", "b", "d"), ("s", "c", "d")))
        stays = (("x", "quay", ("a", "b", "d"), "gx"), ("y", "quay", ("a", "c", "d"), "gy"))
        self.assertIs(told(self, is_harbour, (web, stays)), True)
        self.assertEqual(told(self, how_many_orders, (web, stays)), 0)

    def bad_stays(self):
        east, west = ANNA
        yield (west, east)
        yield (east, east)
        yield (east, ("anna", "east", ("ac", "ad", "ae"), "ha"))
        yield (east, ("anna", "west", ("ac", "ad", "ae"), "ga"))
        yield (east, ("bess", "west", ("aa", "ab", "ac"), "gb"))
        yield (("anna", "east", ("aa", "ab", "ac"), "sa"),)
        yield (("anna", "east", ("aa", "ab", "zz"), "ga"),)
        yield (("anna", "east", ("aa", "ab", "bb"), "ga"),)
        yield (("anna", "east", ("aa", "ab", "ab"), "ga"),)
        yield (("anna", "east", ("aa", "ab", "aa"), "ga"),)
        yield (("anna", "east", ("ba", "ab", "ac"), "ga"),)
        yield (("anna", "east", ("dawn", "ab", "ac"), "ga"),)
        yield (("anna", "east", ("ab", "ab", "ac"), "ga"),)
        yield (("anna", "east", ("aa", "dawn", "ac"), "ga"),)
        yield (("anna", "east", ("aa", "ab", "ac", "ad"), "ga"),)
        yield (("anna", "east", ("aa", "ab"), "ga"),)
        # enters of one is clears, or arrives, of the other one.
        yield (("anna", "east", ("dawn", "aa", "ab"), "ga"), ("bess", "east", ("aa", "ab", "ac"), "gb"))
        yield (("anna", "east", ("aa", "ab", "ad"), "ga"), ("bess", "east", ("ac", "ad", "ae"), "gb"))
        yield (("anna", "east", ("aa", "ab", "ac"), "ga"), ("bess", "east", ("ab", "ac", "ae"), "gb"))
        yield (("anna", "east", ("aa", "ab", "ad"), "ga"), ("bess", "east", ("ab", "ac", "ae"), "gb"))

    def test_bad(self):
        for stays in self.bad_stays():
            self.assertIs(told(self, is_harbour, (PORT, stays)), False, stays)
        for arc in (("zz", "aa", "ab"), ("zz", "dawn", "ab"), ("ga", "dawn", "ae")):
            web = with_arc(PORT, *arc)
            self.assertIs(told(self, is_harbour, (web, HARBOUR[1])), False, arc)
            self.assertIs(told(self, is_harbour, (web, BESS)), True, arc)
        ring = PORT[0], tuple(sorted([*PORT[1], ("zz", "ae", "aa")]))
        self.assertIs(told(self, is_harbour, (ring, ())), False)
        self.assertIs(told(self, is_harbour, (PORT, HARBOUR[1], ())), False)
        self.assertIs(told(self, is_harbour, (PORT,)), False)

    def test_calls(self):
        self.assertEqual(told(self, calls, HARBOUR, "anna"), ("east", "west"))
        self.assertEqual(told(self, calls, (PORT, BESS[1:]), "bess"), ("west",))
        refused(self, NoShip, {"name": "cora"}, calls, HARBOUR, "cora")
        refused(self, NoShip, {"name": "east"}, calls, HARBOUR, "east")
        refused(self, NoShip, {"name": "anna"}, calls, BARE, "anna")


class Told(unittest.TestCase):
    def test_orders_judged(self):
        bad = [ORDERS[:1], ORDERS[1:], ORDERS[::-1], (*ORDERS, ORDERS[1]), (*ORDERS, ("zoo", ())),
               (ORDERS[0], ORDERS[0]), (("east", ("anna",)), ORDERS[1]),
               (("east", ("anna", "bess", "cora")), ORDERS[1]), (("home", ("anna", "bess")), ORDERS[1]),
               (("east", ("anna", "anna")), ORDERS[1]), (("east", ("anna", "bess", "bess")), ORDERS[1]),
               (("east", ("anna", "cora")), ORDERS[1]), (("east", ()), ORDERS[1])]
        judged(self, is_orders, (HARBOUR,), [ORDERS, LOOP], bad)
        judged(self, is_orders, (BARE,), [()], [(("east", ()),), ORDERS])
        judged(self, is_orders, (LONE,), [(("quay", ("ship",)),)], [()])

    def test_orders_by_trying(self):
        for harbour in cases(202, 10):
            for orders in plain_orders(harbour):
                self.assertIs(is_orders(harbour, orders), True)
                for other in plain_orders(LONE):
                    self.assertIs(is_orders(harbour, other), False)

    def test_told(self):
        self.assertEqual(told(self, neighbours, HARBOUR, ORDERS), [("east", "anna", "bess"), ("west", "bess", "anna")])
        self.assertEqual(told(self, neighbours, HARBOUR, LOOP), [("east", "bess", "anna"), ("west", "anna", "bess")])
        web = told(self, told_web, HARBOUR, ORDERS)
        self.assertEqual(web, (PORT[0], tuple(sorted([*PORT[1], ("ga", "ac", "bd"), ("gb", "bc", "ad")]))))
        self.assertIs(told(self, stand, HARBOUR, ORDERS), True)
        self.assertIs(told(self, stand, HARBOUR, LOOP), False)
        refused(self, Ring, {}, told_web, HARBOUR, LOOP)

    def test_edges(self):
        self.assertEqual(told(self, neighbours, BARE, ()), [])
        self.assertEqual(told(self, told_web, BARE, ()), PORT)
        self.assertIs(told(self, stand, BARE, ()), True)
        self.assertIs(told(self, a_ring, BARE, ()), None)
        self.assertEqual(told(self, all_orders, BARE), [()])
        self.assertEqual(told(self, nth_orders, BARE, 0), ())
        self.assertEqual(told(self, forced, BARE), ())
        alone = (("quay", ("ship",)),)
        self.assertEqual(told(self, neighbours, LONE, alone), [])
        self.assertEqual(told(self, told_web, LONE, alone), LONE[0])
        self.assertEqual(told(self, all_orders, LONE), [alone])
        self.assertEqual(told(self, forced, LONE), ())
        self.assertEqual(told(self, all_orders, (EMPTY, ())), [()])

    def test_none_stand(self):
        self.assertEqual(told(self, all_orders, STUCK), [])
        self.assertEqual(told(self, how_many_orders, STUCK), 0)
        self.assertEqual(told(self, forced, STUCK), ())
        refused(self, NoNumber, {"number": 0}, nth_orders, STUCK, 0)

    def test_told_by_trying(self):
        for harbour in cases(203, 12):
            for orders in plain_orders(harbour):
                arcs = tuple(plain_told(harbour, orders))
                pairs = sorted([(berth, *pair) for berth, row in orders for pair in zip(row, row[1:])])
                self.assertEqual(neighbours(harbour, orders), pairs)
                self.assertIs(stand(harbour, orders), in_rows(arcs))
                if in_rows(arcs):
                    self.assertEqual(told(self, told_web, harbour, orders), (harbour[0][0], arcs))
                    self.assertTrue(is_web((harbour[0][0], arcs)))
                else:
                    refused(self, Ring, {}, told_web, harbour, orders)


class Rings(unittest.TestCase):
    def test_judged(self):
        ring = ("ab", "ac", "ad", "ae", "bb", "bc", "bd", "be")
        bad = [ring[1:] + ring[:1], ring[::-1], ring[:-1], (*ring, "ab"), ("ab",), (), (*ring, *ring), ("ab", "ac"),
               ring[:3], (*ring[:4], "zz", *ring[4:]), ("aa", *ring)]
        judged(self, is_ring_of, (HARBOUR, LOOP), [ring], bad)
        judged(self, is_ring_of, (HARBOUR, ORDERS), [], [ring, (), ("dawn",)])
        judged(self, is_ring_of, (BARE, ()), [], [ring, ("dawn", "aa")])

    def test_by_trying(self):
        rings = 0
        for harbour in cases(204, 25):
            for orders in plain_orders(harbour):
                found = all_rings(harbour, orders)
                ring = told(self, a_ring, harbour, orders)
                self.assertIs(ring is None, found == [])
                self.assertIs(told(self, stand, harbour, orders), found == [])
                self.assertTrue(ring is None or ring in found)
                for one in found:
                    self.assertIs(is_ring_of(harbour, orders, one), True)
                    for at in range(1, len(one)):
                        self.assertIs(is_ring_of(harbour, orders, one[at:] + one[:at]), False)
                rings += len(found)
        self.assertGreater(rings, 100)

    def test_rows_by_trying(self):
        found = all_rings(STUCK, plain_orders(STUCK)[0])
        self.assertTrue(found)
        for many in range(4):
            for row in itertools.permutations(STUCK[0][0], many):
                self.assertIs(is_ring_of(STUCK, plain_orders(STUCK)[0], row), row in found)


class AllOrders(unittest.TestCase):
    def test_told(self):
        self.assertEqual(told(self, how_many_orders, HARBOUR), 3)
        self.assertEqual(told(self, nth_orders, HARBOUR, 1), ORDERS)
        self.assertEqual(told(self, forced, HARBOUR), ())
        later = (with_arc(PORT, "t", "ae", "ba"), HARBOUR[1])
        self.assertEqual(told(self, forced, later), (("east", "anna", "bess"), ("west", "anna", "bess")))

    def test_by_trying(self):
        for harbour in cases(205, 40):
            good = [orders for orders in plain_orders(harbour) if in_rows(plain_told(harbour, orders))]
            self.assertEqual(told(self, all_orders, harbour), good)
            self.assertEqual(told(self, how_many_orders, harbour), len(good))
            for number, orders in enumerate(good):
                self.assertEqual(nth_orders(harbour, number), orders)
            for number in (-1, len(good), len(good) + 1, -(10 ** 60), 2 ** 65):
                refused(self, NoNumber, {"number": number}, nth_orders, harbour, number)
            ahead = [{(berth, *pair) for berth, row in orders for pair in itertools.combinations(row, 2)}
                     for orders in good]
            self.assertEqual(told(self, forced, harbour), tuple(sorted(set.intersection(*ahead))) if ahead else ())

    def test_forced_ascends(self):
        web, stays = many_ships(3, ["quay"])
        web = with_arc(with_arc(web, "za", "cr", "ap"), "zb", "ar", "bp")
        rows = (("quay", "a", "b"), ("quay", "c", "a"), ("quay", "c", "b"))
        self.assertEqual(told(self, forced, (web, stays)), rows)
        self.assertEqual(told(self, all_orders, (web, stays)), [(("quay", ("c", "a", "b")),)])

    def test_three_at_three_berths(self):
        harbour = many_ships(3, ["east", "north", "west"])
        self.assertEqual(len(harbour[0][0]), 28)
        good = [orders for orders in plain_orders(harbour) if in_rows(plain_told(harbour, orders))]
        self.assertEqual(all_orders(harbour), good)
        self.assertEqual(all_orders(harbour), sorted(good))
        self.assertEqual(how_many_orders(many_ships(4, ["east"])), 24)


if __name__ == "__main__":
    unittest.main()

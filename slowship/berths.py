"""Berths [11]: ships that stay at berths with room for one, and the ORDERS in which they come."""

from slowship.common import arc_pairs, ascends, frozen, in_order, is_name, is_name_row, is_row, reached, ring_in
from slowship.errors import NoNumber, NoShip, Ring
from slowship.webs import is_web


def is_harbour(thing):
    """Whether thing is a HARBOUR, of however many STAYS."""
    if not is_row(thing, 2) or not is_web(thing[0]) or not _are_stays(thing[1]):
        return False
    web, stays = thing
    known = {event: True for event in web[0]}
    if not all([event in known for stay in stays for event in stay[2]]):
        return False
    return _are_apart(stays) and _have_gaps(web, stays) and _have_entries(web, stays)


def _are_stays(thing):
    """Whether thing is an ascending tuple of what STAYS are made of."""
    return isinstance(thing, tuple) and all([_is_stay(part) for part in thing]) and ascends(thing)


def _is_stay(thing):
    if not is_row(thing, 4) or not all([is_name(part) for part in (thing[0], thing[1], thing[3])]):
        return False
    return is_row(thing[2], 3) and is_name_row(thing[2])


def _are_apart(stays):
    """Whether no ship stays twice at a berth, and no EVENT is enters in two, or more than that."""
    enters = {stay[2][1]: True for stay in stays}
    if len(enters) != len(stays) or len({stay[:2] for stay in stays}) != len(stays):
        return False
    return not any([arrives in enters or clears in enters for _, _, (arrives, _, clears), _ in stays])


def _have_gaps(web, stays):
    """Whether the gaps are unlike, none the name of an ARC."""
    gaps = {stay[3]: True for stay in stays}
    return len(gaps) == len(stays) and not any([arc[0] in gaps for arc in web[1]])


def _have_entries(web, stays):
    """Whether just one ARC leads into each enters, from arrives, and each enters leads to clears."""
    pairs = arc_pairs(web)
    into = {}
    for ahead, behind in pairs:
        into.setdefault(behind, []).append(ahead)
    for _, _, (arrives, enters, clears), _ in stays:
        if into.get(enters) != [arrives] or clears not in reached(enters, pairs):
            return False
    return True


def ships_at(harbour):
    """The pairs (berth, ships) of all berths that have a STAY, both ascending."""
    found = {}
    for berth, ship in sorted([(stay[1], stay[0]) for stay in harbour[1]]):
        found.setdefault(berth, []).append(ship)
    return list(found.items())


def stays_at(harbour):
    """The STAY of each pair (berth, ship)."""
    return {(stay[1], stay[0]): stay for stay in harbour[1]}


def web_told(harbour, rows):
    """The WEB with the ARC of each gap that these pairs (berth, row) tell, whether they stand or not."""
    stays = stays_at(harbour)
    arcs = list(harbour[0][1])
    for berth, ahead, behind in neighbours(harbour, rows):
        _, _, events, gap = stays[berth, ahead]
        arcs.append((gap, events[2], stays[berth, behind][2][1]))
    return harbour[0][0], tuple(sorted(arcs))


def is_orders(harbour, thing):
    """Whether thing is ORDERS of the HARBOUR."""
    berths = ships_at(frozen(harbour))
    if not is_row(thing, len(berths)):
        return False
    return all([_is_order(part, berth, ships) for part, (berth, ships) in zip(thing, berths)])


def _is_order(thing, berth, ships):
    """Whether thing is a pair of this berth and of a row of these ships."""
    if not is_row(thing, 2) or thing[0] != berth or not is_name_row(thing[1]):
        return False
    return sorted(thing[1]) == ships


def calls(harbour, ship):
    """The set of the berths at which this ship has a STAY."""
    found = [stay[1] for stay in frozen(harbour)[1] if stay[0] == ship]
    if not found:
        raise NoShip(ship)
    return tuple(sorted(found))


def neighbours(harbour, orders):
    """The ascending list of the triples (berth, ahead, behind) of the ships of all neighbours."""
    rows = frozen(orders)
    return sorted([(berth, ahead, behind) for berth, row in rows for ahead, behind in zip(row, row[1:])])


def stand(harbour, orders):
    """Whether the ORDERS stand."""
    web = web_told(frozen(harbour), frozen(orders))
    return len(in_order(web)) == len(web[0])


def told_web(harbour, orders):
    """The told WEB of the ORDERS."""
    if not stand(harbour, orders):
        raise Ring()
    return web_told(frozen(harbour), frozen(orders))


def a_ring(harbour, orders):
    """A RING of the ORDERS; None if they stand."""
    ring = [arc[1] for arc in ring_in(web_told(frozen(harbour), frozen(orders)))]
    if not ring:
        return None
    first = ring.index(min(ring))
    return (*ring[first:], *ring[:first])


def is_ring_of(harbour, orders, thing):
    """Whether thing is a RING of the ORDERS."""
    if not is_name_row(thing) or not thing:
        return False
    if thing[0] != min(thing) or len(set(thing)) != len(thing):
        return False
    pairs = {pair: True for pair in arc_pairs(web_told(frozen(harbour), frozen(orders)))}
    return all([pair in pairs for pair in zip(thing, (*thing[1:], thing[0]))])


def all_orders(harbour):
    """The ascending list of all ORDERS that stand."""
    harbour = frozen(harbour)
    found = [()]
    for berth, ships in ships_at(harbour):
        # What makes a ring with the berths ahead makes one with all.
        longer = [(*orders, (berth, row)) for orders in found for row in _all_rows(ships)]
        found = [orders for orders in longer if stand(harbour, orders)]
    return found


def _all_rows(ships):
    """The ascending list of all rows of the ships."""
    rows = [()]
    for _ in ships:
        rows = [(*row, ship) for row in rows for ship in ships if ship not in row]
    return rows


def how_many_orders(harbour):
    """How many ORDERS stand."""
    return len(all_orders(harbour))


def nth_orders(harbour, number):
    """The ORDERS that stand with this number."""
    found = all_orders(harbour)
    if not 0 <= number < len(found):
        raise NoNumber(number)
    return found[number]


def forced(harbour):
    """The set of the triples (berth, one, other), one ahead of other there in all ORDERS that stand."""
    found = all_orders(harbour)
    if not found:
        return ()
    left = _all_ahead(found[0])
    for orders in found[1:]:
        known = {triple: True for triple in _all_ahead(orders)}
        left = [triple for triple in left if triple in known]
    return tuple(sorted(left))


def _all_ahead(orders):
    """The triples (berth, one, other) of all ships of a berth, one ahead of other."""
    return [(berth, one, other) for berth, row in orders for at, one in enumerate(row) for other in row[at + 1:]]

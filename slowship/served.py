"""First come, first served [12]: which berths must be told their row, so that the ORDERS come."""

from slowship.berths import neighbours, stays_at, told_web, web_told
from slowship.common import frozen, laid_out, need_ranges, times_by
from slowship.errors import NoShip
from slowship.spreads import greatest_spread, is_late_way, late_way, never_behind


def first_come(harbour, orders, run, some):
    """The ORDERS in which the ships enter and the time of each EVENT; None if it stands still."""
    harbour, orders, run, some = frozen(harbour), frozen(orders), frozen(run), frozen(some)
    told_web(harbour, orders)
    rows = {berth: row if berth in some else () for berth, row in orders}
    lengths = dict(run)
    found = _times_so_far(harbour, rows, lengths)
    coming = _next_to_come(harbour, orders, rows, found)
    while coming is not None:
        rows[coming[2]] = (*rows[coming[2]], coming[3])
        found = _times_so_far(harbour, rows, lengths)
        coming = _next_to_come(harbour, orders, rows, found)
    if len(found) < len(harbour[0][0]):
        return None
    return tuple(list(rows.items())), tuple([(event, found[event]) for event in harbour[0][0]])


def _times_so_far(harbour, rows, lengths):
    """The time of each EVENT if only ships in these rows wait for each other; none for what can never happen."""
    return times_by(laid_out(web_told(harbour, list(rows.items()))), lengths)


def _next_to_come(harbour, orders, rows, found):
    """The least (time, place, berth, ship) of the ships in no row that arrive; None if there is none.

    Others in no row can still be held up, but by nobody who comes later than they do. So this one is
    not: who would hold it up has come in ahead of it, and takes some time from there.
    """
    stays = stays_at(harbour)
    coming = []
    for berth, row in orders:
        for place, ship in enumerate(row):
            arrives = stays[berth, ship][2][0]
            if ship not in rows[berth] and arrives in found:
                coming.append((found[arrives], place, berth, ship))
    return min(coming, default=None)


def do_come(harbour, orders, run, some):
    """Whether the ORDERS come in the RUN."""
    found = first_come(harbour, orders, run, some)
    return found is not None and found[0] == frozen(orders)


def _checked(harbour, orders, ranges):
    """The HARBOUR, the told WEB and the RANGES, behind the checks."""
    harbour, ranges = frozen(harbour), frozen(ranges)
    web = told_web(harbour, orders)
    need_ranges(ranges, (web,))
    return harbour, web, ranges


def _arrivals(harbour, orders):
    """The pairs (triple, arrivals) of all neighbours, arrivals their EVENTS arrives."""
    stays = stays_at(harbour)
    found = []
    for berth, ahead, behind in neighbours(harbour, orders):
        found.append(((berth, ahead, behind), (stays[berth, ahead][2][0], stays[berth, behind][2][0])))
    return found


def unsure_pairs(harbour, orders, ranges):
    """The ascending list of the triples (berth, ahead, behind) of the neighbours that are not sure."""
    harbour, web, ranges = _checked(harbour, orders, ranges)
    pairs = _arrivals(harbour, orders)
    return [triple for triple, (one, other) in pairs if not never_behind(web, one, web, (other,), ranges, 0)]


def must_be_told(harbour, orders, ranges):
    """The set of the berths that must be told."""
    return tuple(sorted({berth for berth, _, _ in unsure_pairs(harbour, orders, ranges)}))


def come_always(harbour, orders, ranges, some):
    """Whether the ORDERS come FOR ALL RUNS."""
    return all([berth in some for berth in must_be_told(harbour, orders, ranges)])


def held(harbour, orders, ranges):
    """The quadruples (berth, ahead, behind, number): by how much the one ahead arrives behind at the most."""
    harbour, web, ranges = _checked(harbour, orders, ranges)
    rows = []
    for triple, (one, other) in _arrivals(harbour, orders):
        rows.append((*triple, max(0, greatest_spread(web, one, web, (other,), ranges))))
    return tuple(rows)


def _at_berth(harbour, orders, ranges, berth, ship):
    """The told WEB and the arrivals of the ship there and of its neighbour behind it; None in their place if none."""
    harbour, web, _ = _checked(harbour, orders, ranges)
    if (berth, ship) not in stays_at(harbour):
        raise NoShip(ship)
    for triple, arrivals in _arrivals(harbour, orders):
        if triple[:2] == (berth, ship):
            return web, arrivals
    return web, None


def unsure_way(harbour, orders, ranges, berth, ship):
    """A late WAY for 0 of its arriving there behind its neighbour behind it; None if there is none."""
    web, arrivals = _at_berth(harbour, orders, ranges, berth, ship)
    if arrivals is None:
        return None
    return late_way(web, arrivals[0], web, arrivals[1:], ranges, 0)


def is_unsure_way(harbour, orders, ranges, berth, ship, thing):
    """Whether thing is such a WAY."""
    web, arrivals = _at_berth(harbour, orders, ranges, berth, ship)
    if arrivals is None:
        return False
    return is_late_way(web, arrivals[0], web, arrivals[1:], ranges, 0, thing)

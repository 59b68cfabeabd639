"""Waits that make changes sure [15]: ARCS of the names of CHANGES, so that the ship waits."""

from slowship.cargo import is_missed_way, missed_way, sure_changes
from slowship.common import all_sets, ends_of, fewest_first, frozen, is_name_row, is_row
from slowship.common import need_arcs, need_events, need_ranges, ring_in
from slowship.errors import Ring
from slowship.lean import can_go
from slowship.same import later_span


def _waiting(web, cargo, waits):
    """The WEB with waits, whether ARCS lead from an EVENT back to it or not."""
    comes = {ship: event for ship, _, event in cargo[0]}
    goes = {ship: event for ship, event, _ in cargo[0]}
    arcs = [(name, comes[one], goes[other]) for name, one, other, _ in cargo[1] if name in waits]
    return web[0], tuple(sorted([*web[1], *arcs]))


def _waiting_ranges(ranges, cargo, waits):
    """The RANGES with those of the waits."""
    more = [(name, minutes, minutes) for name, _, _, minutes in cargo[1] if name in waits]
    return tuple(sorted([*ranges, *more]))


def with_waits(web, ranges, cargo, waits):
    """The pair of the WEB with waits, and of the RANGES with those of the waits."""
    return _checked(web, ranges, cargo, (waits,), ())


def _checked(web, ranges, cargo, sets, events):
    """The WEB and the RANGES with the last of these sets of waits, behind the checks."""
    web, ranges, cargo = frozen(web), frozen(ranges), frozen(cargo)
    need_ranges(ranges, (web,))
    need_events(web, events)
    for names in sets:
        need_arcs(cargo[1], names)
    changed = _waiting(web, cargo, sets[-1])
    if ring_in(changed):
        raise Ring()
    return changed, _waiting_ranges(ranges, cargo, sets[-1])


def wait_ring(web, cargo, waits):
    """The names of ARCS and waits that lead from an EVENT back to it; None if none do."""
    web, cargo = frozen(web), frozen(cargo)
    need_arcs(cargo[1], waits)
    ring = ring_in(_waiting(web, cargo, waits))
    return tuple([arc[0] for arc in ring]) if ring else None


def is_wait_ring(web, cargo, waits, thing):
    """Whether thing is a tuple of such names."""
    web, cargo = frozen(web), frozen(cargo)
    need_arcs(cargo[1], waits)
    ends = ends_of(_waiting(web, cargo, waits))
    if not is_name_row(thing) or not thing or len(set(thing)) != len(thing):
        return False
    if not all([name in ends for name in thing]):
        return False
    return all([ends[one][1] == ends[other][0] for one, other in zip(thing, (*thing[1:], thing[0]))])


def sure_by_waits(web, ranges, cargo, waits):
    """The set of the names of the CHANGES that are sure in the WEB with waits."""
    changed, wide = with_waits(web, ranges, cargo, waits)
    return sure_changes(changed, wide, cargo)


def undone_paper(web, ranges, cargo, some, waits):
    """A CHANGE of some and a WAY of the WEB with waits by which it is missed; None if waits do for some."""
    changed, wide = _checked(web, ranges, cargo, (some, waits), ())
    for name in some:
        way = missed_way(changed, wide, cargo, name)
        if way is not None:
            return name, way
    return None


def is_undone_paper(web, ranges, cargo, some, waits, thing):
    """Whether thing is such a pair."""
    changed, wide = _checked(web, ranges, cargo, (some, waits), ())
    if not is_row(thing, 2) or thing[0] not in some:
        return False
    return is_missed_way(changed, wide, cargo, thing[0], thing[1])


def all_waits(web, ranges, cargo, some):
    """The ascending list of the sets of waits of some that do for some.

    Those are the ones with which each EVENT happens when it does with some, so at each EVENT into
    which waits lead by itself: those left out there can go.
    """
    changed, wide = with_waits(web, ranges, cargo, some)
    found = [()]
    for names in _by_goal(changed, some):
        kept = _kept_sets(changed, wide, names)
        found = [(*row, *more) for row in found for more in kept]
    return sorted([tuple(sorted(row)) for row in found])


def _by_goal(web, names):
    """The rows of those of these names that lead to the same EVENT, each ascending."""
    rows = {}
    for name, _, behind in web[1]:
        if name in names:
            rows.setdefault(behind, []).append(name)
    return list(rows.values())


def _kept_sets(web, ranges, names):
    """The sets of these names without all others of which each EVENT happens when it did."""
    found = []
    for kept in all_sets(names):
        if can_go(web, ranges, tuple([name for name in names if name not in kept])):
            found.append(kept)
    return found


def fewest_waits(web, ranges, cargo, some):
    """Of the sets of waits of some that do for some those with the fewest, of these the least."""
    return fewest_first(all_waits(web, ranges, cargo, some))[0]


def journey_waits(web, ranges, cargo, journey):
    """The fewest waits that do for the CHANGES of the journey."""
    journey = frozen(journey)
    steps = {pair: True for pair in zip(journey, journey[1:])}
    some = tuple([change[0] for change in frozen(cargo)[1] if change[1:3] in steps])
    return fewest_waits(web, ranges, cargo, some)


def moved_by(web, ranges, cargo, waits, event):
    """The least and the greatest number by which the EVENT happens later in the WEB with waits."""
    changed, wide = _checked(web, ranges, cargo, (waits,), (event,))
    return later_span(changed, web, wide, event)

"""Cargo from ship to ship [14]: CHANGES that are reached in each RUN, and the journeys made of them."""

from slowship.common import ascends, frozen, is_name, is_name_row, is_name_set, is_number, is_row
from slowship.common import need_arcs, need_ranges, reached
from slowship.errors import NoShip
from slowship.spreads import greatest_spread, late_way, least_spread, never_behind, spread
from slowship.times import greatest_time, slow_run
from slowship.webs import is_way


def is_cargo(web, thing):
    """Whether thing is a CARGO of the WEB, of however many rides and CHANGES."""
    if not is_row(thing, 2) or not _are_rides(thing[0]) or not _are_changes(thing[1]):
        return False
    web = frozen(web)
    rides, changes = thing
    events = [event for ride in rides for event in ride[1:]]
    known = {event: True for event in web[0]}
    if len(set(events)) != len(events) or not all([event in known for event in events]):
        return False
    names = {arc[0]: True for arc in web[1]}
    ships = {ride[0]: True for ride in rides}
    if not all([one in ships and other in ships and name not in names for name, one, other, _ in changes]):
        return False
    return len({change[1:3] for change in changes}) == len(changes)


def _are_rides(thing):
    """Whether thing is an ascending tuple of triples of NAMES, no first one twice."""
    if not isinstance(thing, tuple) or not all([is_row(part, 3) and is_name_row(part) for part in thing]):
        return False
    return ascends([part[0] for part in thing])


def _are_changes(thing):
    """Whether thing is an ascending tuple of what CHANGES are made of, no name twice."""
    if not isinstance(thing, tuple) or not all([_is_change(part) for part in thing]):
        return False
    return ascends([part[0] for part in thing])


def _is_change(thing):
    if not is_row(thing, 4) or not is_name_row(thing[:3]) or thing[1] == thing[2]:
        return False
    return is_number(thing[3]) and thing[3] >= 0


def is_journey(cargo, thing):
    """Whether thing is a journey."""
    rides, changes = frozen(cargo)
    if not is_name_row(thing) or not thing or len(set(thing)) != len(thing):
        return False
    if thing[0] not in [ride[0] for ride in rides]:
        return False
    pairs = [change[1:3] for change in changes]
    return all([pair in pairs for pair in zip(thing, thing[1:])])


def _checked(web, ranges, cargo, ships):
    """The first three with tuples, behind the checks."""
    web, ranges, cargo = frozen(web), frozen(ranges), frozen(cargo)
    need_ranges(ranges, (web,))
    known = {ride[0] for ride in cargo[0]}
    for ship in ships:
        if ship not in known:
            raise NoShip(ship)
    return web, ranges, cargo


def _missed_at(web, ranges, cargo, change):
    """The EVENTS comes and goes of a CHANGE, and its minutes, behind the checks."""
    web, ranges, cargo = _checked(web, ranges, cargo, ())
    need_arcs(cargo[1], (change,))
    comes = {ship: event for ship, _, event in cargo[0]}
    goes = {ship: event for ship, event, _ in cargo[0]}
    _, one, other, minutes = {part[0]: part for part in cargo[1]}[change]
    return comes[one], goes[other], minutes


def missed_span(web, ranges, cargo, change):
    """The least and the greatest number by which the CHANGE is missed."""
    comes, goes, minutes = _missed_at(web, ranges, cargo, change)
    least = least_spread(web, comes, web, (goes,), ranges)
    return least + minutes, greatest_spread(web, comes, web, (goes,), ranges) + minutes


def sure_changes(web, ranges, cargo):
    """The set of the names of the CHANGES that are sure."""
    web, ranges, cargo = _checked(web, ranges, cargo, ())
    return tuple([part[0] for part in cargo[1] if _is_sure(web, ranges, cargo, part[0])])


def _is_sure(web, ranges, cargo, change):
    comes, goes, minutes = _missed_at(web, ranges, cargo, change)
    return never_behind(web, comes, web, (goes,), ranges, -minutes)


def missed_way(web, ranges, cargo, change):
    """A WAY to comes of its first ship in the slow RUN of which the CHANGE is missed; None if it is sure."""
    comes, goes, minutes = _missed_at(web, ranges, cargo, change)
    return late_way(web, comes, web, (goes,), ranges, -minutes)


def is_missed_way(web, ranges, cargo, change, thing):
    """Whether thing is such a WAY."""
    comes, goes, minutes = _missed_at(web, ranges, cargo, change)
    if not is_way(web, comes, thing):
        return False
    return spread(web, comes, web, (goes,), slow_run(ranges, thing)) + minutes > 0


def _sure_steps(web, ranges, cargo):
    """The pairs of ships of all CHANGES that are sure."""
    sure = {name: True for name in sure_changes(web, ranges, cargo)}
    return [(one, other) for name, one, other, _ in cargo[1] if name in sure]


def sure_journeys(web, ranges, cargo, first, last):
    """The ascending list of the sure journeys from one ship to the other one."""
    web, ranges, cargo = _checked(web, ranges, cargo, (first, last))
    return _journeys(_sure_steps(web, ranges, cargo), first, last)


def _journeys(steps, first, last):
    """The ascending list of the journeys from first to last over these pairs of ships."""
    found = []
    waiting = [(first,)]
    while waiting:
        row = waiting.pop()
        if row[-1] == last:
            found.append(row)
        else:
            waiting.extend([(*row, other) for one, other in steps if one == row[-1] and other not in row])
    return sorted(found)


def best_sure(web, ranges, cargo, first, lasts):
    """The pair (number, journey) of the sure journey that is there soonest; None if there is none."""
    lasts = frozen(lasts)
    web, ranges, cargo = _checked(web, ranges, cargo, (first, *lasts))
    comes = {ship: event for ship, _, event in cargo[0]}
    steps = _sure_steps(web, ranges, cargo)
    found = []
    for last in lasts:
        number = greatest_time(web, ranges, comes[last])
        found.extend([(number, len(row), row) for row in _journeys(steps, first, last)])
    if not found:
        return None
    number, _, row = min(found)
    return number, row


def stuck_paper(web, ranges, cargo, first, last):
    """A set of ships with first, without last, and how each CHANGE out of it is missed; None if a journey is sure."""
    web, ranges, cargo = _checked(web, ranges, cargo, (first, last))
    ships = sorted(set([first, *reached(first, _sure_steps(web, ranges, cargo))]))
    if last in ships:
        return None
    papers = [(name, missed_way(web, ranges, cargo, name)) for name in _changes_out(cargo, ships)]
    return tuple(ships), tuple(papers)


def _changes_out(cargo, ships):
    """The ascending list of the names of the CHANGES from one of the ships to one that is not among them."""
    return [name for name, one, other, _ in cargo[1] if one in ships and other not in ships]


def is_stuck_paper(web, ranges, cargo, first, last, thing):
    """Whether thing is such a pair."""
    web, ranges, cargo = _checked(web, ranges, cargo, (first, last))
    if not is_row(thing, 2) or not is_name_set(thing[0]) or first not in thing[0] or last in thing[0]:
        return False
    known = {ride[0]: True for ride in cargo[0]}
    names = _changes_out(cargo, thing[0])
    if not all([ship in known for ship in thing[0]]) or not is_row(thing[1], len(names)):
        return False
    return all([_is_paper(web, ranges, cargo, name, part) for name, part in zip(names, thing[1])])


def _is_paper(web, ranges, cargo, name, thing):
    """Whether thing is a pair of the name of this CHANGE and of a WAY by which it is missed."""
    return is_row(thing, 2) and thing[0] == name and is_missed_way(web, ranges, cargo, name, thing[1])

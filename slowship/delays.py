"""Late events [16]: how lateness is handed on, and which ARCS lead from one EVENT to another one."""

from slowship.common import all_sets, ends_of, fewest_first, frozen, is_name, is_name_row, laid_out, most_apart
from slowship.common import need_events, need_ranges, times_by
from slowship.errors import NoPaper, Unfit
from slowship.spreads import greatest_spread, late_way, least_spread, never_behind
from slowship.times import slow_run, time_of
from slowship.webs import is_way


def _checked(web, rows, lates, events):
    """The first three with tuples, behind the checks; rows are RANGES or a RUN."""
    web, rows, lates = frozen(web), frozen(rows), frozen(lates)
    need_ranges(rows, (web,))
    need_events(web, [event for event, _ in lates])
    need_events(web, events)
    return web, rows, lates


def _with_lates(web, lates):
    """The WEB in which what LATES tell are ARCS, each one from where the ARCS into an EVENT let it, to the EVENT.

    It, and the EVENT from which it leads, have a blank behind their names: no NAME has one.
    """
    places = {event: event + " " for event, _ in lates}
    arcs = [(name, ahead, places.get(behind, behind)) for name, ahead, behind in web[1]]
    arcs.extend([(place, place, event) for event, place in places.items()])
    return tuple(sorted([*web[0], *list(places.values())])), tuple(sorted(arcs))


def _ranges_with(ranges, lates):
    """The RANGES with those of the ARCS that LATES tell."""
    return tuple(sorted([*ranges, *[(event + " ", number, number) for event, number in lates]]))


def late_times(web, run, lates):
    """The pairs (event, time) of all EVENTS in this RUN with LATES."""
    web, run, lates = _checked(web, run, lates, ())
    found = _times_with(web, run, lates)
    return tuple([(event, found[event]) for event in web[0]])


def _times_with(web, run, lates):
    """The time of each EVENT in this RUN with LATES."""
    lengths = dict([*run, *[(event + " ", number) for event, number in lates]])
    return times_by(laid_out(_with_lates(web, lates)), lengths)


def late_by(web, run, lates, event):
    """By how much this EVENT is late in this RUN."""
    web, run, lates = _checked(web, run, lates, (event,))
    return _times_with(web, run, lates)[event] - time_of(web, run, event)


def least_late(web, ranges, lates, event):
    """By how much the EVENT is late at the least, over ALL RUNS."""
    web, ranges, lates = _checked(web, ranges, lates, (event,))
    return least_spread(_with_lates(web, lates), event, web, (event,), _ranges_with(ranges, lates))


def most_late(web, ranges, lates, event):
    """By how much the EVENT is late at the most, over ALL RUNS."""
    web, ranges, lates = _checked(web, ranges, lates, (event,))
    return greatest_spread(_with_lates(web, lates), event, web, (event,), _ranges_with(ranges, lates))


def sometimes_late(web, ranges, lates):
    """The set of the EVENTS that are late in some RUN."""
    web, ranges, lates = _checked(web, ranges, lates, ())
    late, wide = _with_lates(web, lates), _ranges_with(ranges, lates)
    return tuple([event for event in web[0] if not never_behind(late, event, web, (event,), wide, 0)])


def always_late(web, ranges, lates):
    """The set of the EVENTS that are late in ALL RUNS."""
    web, ranges, lates = _checked(web, ranges, lates, ())
    late, wide = _with_lates(web, lates), _ranges_with(ranges, lates)
    return tuple([event for event in web[0] if never_behind(web, event, late, (event,), wide, -1)])


def late_paper(web, ranges, lates, event, number):
    """A WAY to the EVENT in the slow RUN of which it is late by the number or more."""
    web, ranges, lates = _checked(web, ranges, lates, (event,))
    late, wide = _with_lates(web, lates), _ranges_with(ranges, lates)
    way = late_way(late, event, web, (event,), wide, number - 1)
    if way is None:
        raise NoPaper()
    return tuple([name for name in way if is_name(name)])


def early_paper(web, ranges, lates, event, number):
    """A WAY to the EVENT in the slow RUN of which it is late by the number or less."""
    web, ranges, lates = _checked(web, ranges, lates, (event,))
    late, wide = _with_lates(web, lates), _ranges_with(ranges, lates)
    way = late_way(web, event, late, (event,), wide, -number - 1)
    if way is None:
        raise NoPaper()
    return way


def is_late_paper(web, ranges, lates, event, number, thing):
    """Whether thing is a WAY to the EVENT in the slow RUN of which it is late by the number or more."""
    web, ranges, lates = _checked(web, ranges, lates, (event,))
    return is_way(web, event, thing) and late_by(web, slow_run(ranges, thing), lates, event) >= number


def is_early_paper(web, ranges, lates, event, number, thing):
    """Whether thing is a WAY to the EVENT in the slow RUN of which it is late by the number or less."""
    web, ranges, lates = _checked(web, ranges, lates, (event,))
    return is_way(web, event, thing) and late_by(web, slow_run(ranges, thing), lates, event) <= number


def least_lates(web, ranges, lates, event, number):
    """The fewest pairs of LATES, the least such, by which the EVENT is late by the number or more in some RUN."""
    web, ranges, lates = _checked(web, ranges, lates, (event,))
    # By some of the LATES alone it is never later than by all.
    if most_late(web, ranges, lates, event) < number:
        raise NoPaper()
    for some in fewest_first(all_sets(lates)):
        if most_late(web, ranges, some, event) >= number:
            return some
    return lates


def _need_two(web, one, other):
    """Raise NoEvent for the first that is none, Unfit if both are the same."""
    need_events(web, (one, other))
    if one == other:
        raise Unfit()


def fewest_cut(web, one, other):
    """The fewest ARCS, the least such set, without which no ARCS lead on from one to other."""
    web = frozen(web)
    _need_two(web, one, other)
    arcs = web[1]
    many = len(_rows_apart(arcs, one, other))
    cut = []
    for arc in web[1]:
        left = [part for part in arcs if part != arc]
        if len(_rows_apart(left, one, other)) < many:
            # The ARC is in a fewest cut of those that are left, and none less than it is.
            cut.append(arc[0])
            arcs = left
            many -= 1
    return tuple(cut)


def _rows_apart(arcs, one, other):
    """The ascending list of as many rows of names from one to other as can be, no ARC in two of them."""
    used = most_apart(arcs, one, other)
    steps = {}
    for name, ahead, behind in arcs:
        if name in used:
            steps.setdefault(ahead, []).append((name, behind))
    rows = []
    for name, here in list(steps.get(one, [])):
        row = [name]
        while here != other:
            name, here = steps[here].pop()
            row.append(name)
        rows.append(tuple(row))
    return sorted(rows)


def apart_ways(web, one, other):
    """As many rows of names of ARCS from one to other as can be, no ARC in two of them."""
    web = frozen(web)
    _need_two(web, one, other)
    return tuple(_rows_apart(web[1], one, other))


def is_apart_ways(web, one, other, thing):
    """Whether thing is a tuple of such rows, as many as can be."""
    web = frozen(web)
    _need_two(web, one, other)
    if not isinstance(thing, tuple) or not all([_leads(web, one, other, row) for row in thing]):
        return False
    names = [name for row in thing for name in row]
    return len(set(names)) == len(names) and len(thing) == len(_rows_apart(web[1], one, other))


def _leads(web, one, other, thing):
    """Whether thing is a tuple of names of ARCS one behind another, from one to other."""
    ends = ends_of(web)
    if not is_name_row(thing) or not all([name in ends for name in thing]):
        return False
    return [one, *[ends[name][1] for name in thing]] == [*[ends[name][0] for name in thing], other]

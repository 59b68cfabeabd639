"""Daily lines [18]: the same EVENTS day by day, and whether lateness is made good."""

from slowship.common import ascends, frozen, in_order, is_name, is_name_row, is_number, is_row
from slowship.common import need_arcs, need_events, need_ranges, reached


def is_daily(thing):
    """Whether thing is a DAILY, of however many EVENTS, ARCS and days."""
    if not is_row(thing, 3) or not is_number(thing[0]) or thing[0] < 1:
        return False
    if not _are_told(thing[1]) or not _are_daily_arcs(thing[2]):
        return False
    known = {event: True for event, _ in thing[1]}
    if not all([ahead in known and behind in known for _, ahead, behind, _ in thing[2]]):
        return False
    return len(in_order(_same_day(thing))) == len(known)


def _are_told(thing):
    """Whether thing is an ascending tuple of pairs (NAME, number from 0), no NAME twice."""
    if not isinstance(thing, tuple) or not all([is_row(part, 2) and is_name(part[0]) for part in thing]):
        return False
    return all([_is_from_0(part[1]) for part in thing]) and ascends([part[0] for part in thing])


def _are_daily_arcs(thing):
    """Whether thing is an ascending tuple of quadruples (NAME, NAME, NAME, number from 0), no first NAME twice."""
    if not isinstance(thing, tuple) or not all([is_row(part, 4) and is_name_row(part[:3]) for part in thing]):
        return False
    return all([_is_from_0(part[3]) for part in thing]) and ascends([part[0] for part in thing])


def _is_from_0(thing):
    return is_number(thing) and thing >= 0


def _same_day(daily):
    """The WEB of the EVENTS, and of the ARCS of 0 days."""
    arcs = [(name, ahead, behind) for name, ahead, behind, days in daily[2] if days == 0]
    return tuple([event for event, _ in daily[1]]), tuple(arcs)


def line_pairs(daily):
    """The pairs (ahead, behind) of all ARCS."""
    return [(ahead, behind) for _, ahead, behind, _ in daily[2]]


def need_told(daily, events):
    """Raise NoEvent for the first of events that the DAILY does not have."""
    need_events(([event for event, _ in daily[1]], daily[2]), events)


def need_line(daily, rows, events):
    """Raise NoRange for the least ARC whose name no row has, then as need_told."""
    need_ranges(rows, (daily[1:],))
    need_told(daily, events)


def laid_out_days(daily):
    """The pairs (event, arcs), EVENTS in the order of a day, arcs the triples (name, ahead, days) of those into it."""
    into = {event: [] for event, _ in daily[1]}
    for name, ahead, behind, days in daily[2]:
        into[behind].append((name, ahead, days))
    return [(event, into[event]) for event in in_order(_same_day(daily))]


def next_day(lines, past, least, lengths):
    """What each EVENT of a DAILY that is laid out comes to on the day behind those past, least or more.

    It is what an EVENT ahead has come to, so many days ago, and the length of the ARC: so times are
    told, or, if lengths are what is not made good, lateness.
    """
    now = dict(least)
    for event, arcs in lines:
        for name, ahead, days in arcs:
            if days <= len(past):
                there = now if days == 0 else past[len(past) - days]
                now[event] = max(now[event], there[ahead] + lengths[name])
    return now


def played_with(daily, extra, runs):
    """The list, day by day, of the time of each EVENT; on day 0 told times are later by extra."""
    for run in runs:
        need_line(daily, run, ())
    lines = laid_out_days(daily)
    past = []
    for run in runs:
        least = {event: number + len(past) * daily[0] for event, number in daily[1]}
        if not past:
            least = {event: least[event] + extra.get(event, 0) for event in least}
        past.append(next_day(lines, past, least, dict(run)))
    return past


def by_day(daily, rows):
    """The list of the ascending tuples of pairs of all EVENTS, for such a list."""
    return [tuple([(event, row[event]) for event, _ in daily[1]]) for row in rows]


def played(daily, runs):
    """The list, day by day, of the pairs (event, time)."""
    daily, runs = frozen(daily), frozen(runs)
    return by_day(daily, played_with(daily, {}, runs))


def late_days(daily, runs):
    """The list, day by day, of the pairs (event, number) of the EVENTS that are late."""
    daily, runs = frozen(daily), frozen(runs)
    told = dict(daily[1])
    found = []
    for day, row in enumerate(played(daily, runs)):
        late = [(event, number - told[event] - day * daily[0]) for event, number in row]
        found.append(tuple([pair for pair in late if pair[1] > 0]))
    return found


def airs_of(daily, ranges):
    """The air of each ARC."""
    told = dict(daily[1])
    highs = {name: high for name, _, high in ranges}
    airs = {}
    for name, ahead, behind, days in daily[2]:
        airs[name] = told[behind] + days * daily[0] - told[ahead] - highs[name]
    return airs


def _checked(daily, ranges, events):
    """The first two with tuples, behind the checks."""
    daily, ranges = frozen(daily), frozen(ranges)
    need_line(daily, ranges, events)
    return daily, ranges


def air_of(daily, ranges, name):
    """The air of this ARC."""
    daily, ranges = _checked(daily, ranges, ())
    need_arcs(daily[2], (name,))
    return airs_of(daily, ranges)[name]


def short_arcs(daily, ranges):
    """The set of the ARCS with air below 0."""
    daily, ranges = _checked(daily, ranges, ())
    airs = airs_of(daily, ranges)
    return tuple([arc[0] for arc in daily[2] if airs[arc[0]] < 0])


def laps(daily):
    """The ascending list of all LAPS."""
    arcs = frozen(daily)[2]
    found = []
    for name, ahead, behind, _ in arcs:
        found.extend(_laps_from([arc for arc in arcs if arc[0] > name], name, ahead, behind))
    return sorted(found)


def _laps_from(arcs, name, start, behind):
    """All LAPS that begin with an ARC of this name, from start to behind, all others among arcs."""
    found = []
    waiting = [((name,), (behind,))]
    while waiting:
        lap, events = waiting.pop()
        if events[-1] == start:
            found.append(lap)
            continue
        for other, ahead, there, _ in arcs:
            if ahead == events[-1] and there not in events:
                waiting.append(((*lap, other), (*events, there)))
    return found


def lap_air(daily, ranges, lap):
    """The air of the LAP."""
    daily, ranges = _checked(daily, ranges, ())
    need_arcs(daily[2], lap)
    airs = airs_of(daily, ranges)
    return sum([airs[name] for name in lap])


def worst_lap(daily, ranges):
    """The least of the LAPS with the least air; None if there is no LAP."""
    daily, ranges = _checked(daily, ranges, ())
    rows = [(lap_air(daily, ranges, lap), lap) for lap in laps(daily)]
    return min(rows)[1] if rows else None


def is_bad_lap(daily, ranges, thing):
    """Whether thing is a LAP with air below 0."""
    daily, ranges = _checked(daily, ranges, ())
    return thing in laps(daily) and lap_air(daily, ranges, thing) < 0


def is_kept(daily, ranges):
    """Whether no LAP has air below 0."""
    worst = worst_lap(daily, ranges)
    return worst is None or lap_air(daily, ranges, worst) >= 0


def least_period(daily, ranges):
    """The least period with which no LAP has air below 0."""
    daily, ranges = _checked(daily, ranges, ())
    highs = {name: high for name, _, high in ranges}
    days = {arc[0]: arc[3] for arc in daily[2]}
    period = 1
    for lap in laps(daily):
        # Around a LAP told times come to nothing: so many periods as it has days must last as long as it does.
        long = sum([highs[name] for name in lap])
        period = max(period, -(-long // sum([days[name] for name in lap])))
    return period


def most_behind(daily, ranges, event):
    """The greatest number by which this EVENT is late on some day in some RUNS; None if there is none."""
    daily, ranges = _checked(daily, ranges, (event,))
    airs = airs_of(daily, ranges)
    near = {other: True for other in [event, *reached(event, [(there, here) for here, there in line_pairs(daily)])]}
    arcs = [arc for arc in daily[2] if arc[2] in near]
    late = {other: 0 for other in near}
    # Without a LAP with air below 0 no EVENT comes twice on what makes it late most.
    for _ in near:
        late = _more_late(arcs, airs, late)
    return late[event] if late == _more_late(arcs, airs, late) else None


def _more_late(arcs, airs, late):
    """By how much each EVENT is late at the most, if those ahead are late so much, or it was before."""
    found = dict(late)
    for name, ahead, behind, _ in arcs:
        found[behind] = max(found[behind], late[ahead] - airs[name])
    return found

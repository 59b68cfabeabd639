"""Air [17]: how much later an EVENT can be before another one is late, and PLANS of told times."""

from slowship.common import arc_pairs, frozen, highs_of, laid_out, need_events, need_ranges, reached
from slowship.errors import NoPaper, Unfit
from slowship.spreads import greatest_spread, late_way
from slowship.times import slow_run, time_of
from slowship.webs import is_way


def _checked(web, rows, events):
    """The first two with tuples, behind the checks; rows are RANGES or a RUN."""
    web, rows = frozen(web), frozen(rows)
    need_ranges(rows, (web,))
    need_events(web, events)
    return web, rows


def _leads(web, one, other):
    """Whether there is AIR of one to other: ARCS lead there, or both are the same."""
    return one == other or other in reached(one, arc_pairs(web))


def _over(web, one):
    """The WEB with just the ARCS that stand ahead of one, or behind it, on WAYS over it.

    For what one leads to all WAYS in it are those over one: so the AIR is how much earlier it is here.
    """
    pairs = arc_pairs(web)
    later = {event: True for event in [one, *reached(one, pairs)]}
    earlier = {event: True for event in [one, *reached(one, [(behind, ahead) for ahead, behind in pairs])]}
    return web[0], tuple([arc for arc in web[1] if arc[1] in later or arc[2] in earlier])


def air(web, run, one, other):
    """The AIR of one to other in the RUN; None if no ARCS lead there."""
    web, run = _checked(web, run, (one, other))
    if not _leads(web, one, other):
        return None
    return time_of(web, run, other) - time_of(_over(web, one), run, other)


def least_air(web, ranges, one, other):
    """The least AIR of one to other over ALL RUNS; None if no ARCS lead there."""
    web, ranges = _checked(web, ranges, (one, other))
    if not _leads(web, one, other):
        return None
    return -greatest_spread(_over(web, one), other, web, (other,), ranges)


def greatest_air(web, ranges, one, other):
    """The greatest AIR of one to other over ALL RUNS; None if no ARCS lead there."""
    web, ranges = _checked(web, ranges, (one, other))
    if not _leads(web, one, other):
        return None
    return greatest_spread(web, other, _over(web, one), (other,), ranges)


def tight_paper(web, ranges, one, other, number):
    """A WAY to other over one in the slow RUN of which the AIR is the number or less."""
    web, ranges = _checked(web, ranges, (one, other))
    if _leads(web, one, other):
        way = late_way(_over(web, one), other, web, (other,), ranges, -number - 1)
        if way is not None:
            return way
    raise NoPaper()


def loose_paper(web, ranges, one, other, number):
    """A WAY to other in the slow RUN of which the AIR is the number or more."""
    web, ranges = _checked(web, ranges, (one, other))
    if _leads(web, one, other):
        way = late_way(web, other, _over(web, one), (other,), ranges, number - 1)
        if way is not None:
            return way
    raise NoPaper()


def is_tight_paper(web, ranges, one, other, number, thing):
    """Whether thing is a WAY to other over one in the slow RUN of which the AIR is the number or less."""
    web, ranges = _checked(web, ranges, (one, other))
    if not _leads(web, one, other) or not is_way(_over(web, one), other, thing):
        return False
    return air(web, slow_run(ranges, thing), one, other) <= number


def is_loose_paper(web, ranges, one, other, number, thing):
    """Whether thing is a WAY to other in the slow RUN of which the AIR is the number or more."""
    web, ranges = _checked(web, ranges, (one, other))
    if not _leads(web, one, other) or not is_way(web, other, thing):
        return False
    return air(web, slow_run(ranges, thing), one, other) >= number


def _leading_pairs(web):
    """The ascending list of the pairs of unlike EVENTS, ARCS leading from the first one to the second one."""
    pairs = arc_pairs(web)
    return [(one, other) for one in web[0] for other in reached(one, pairs)]


def always_tight(web, ranges):
    """The set of the pairs of EVENTS, one leading to other, the AIR of which is 0 in ALL RUNS."""
    web, ranges = _checked(web, ranges, ())
    return tuple([pair for pair in _leading_pairs(web) if greatest_air(web, ranges, pair[0], pair[1]) == 0])


def never_tight(web, ranges):
    """The set of the pairs of EVENTS, one leading to other, the AIR of which is 0 in no RUN."""
    web, ranges = _checked(web, ranges, ())
    return tuple([pair for pair in _leading_pairs(web) if least_air(web, ranges, pair[0], pair[1]) > 0])


def safe_hours(web, ranges, one, some):
    """By how much one alone can be late, at the most, with none of some late in any RUN; None if by however much."""
    web, ranges = _checked(web, ranges, (one, *some))
    airs = [least_air(web, ranges, one, other) for other in some]
    return min([number for number in airs if number is not None], default=None)


def _told_times(web, lengths, plan, lates):
    """The time of each EVENT with PLAN and LATES, by the lengths of the ARCS."""
    told, late = dict(plan), dict(lates)
    found = {}
    for event, arcs in laid_out(web):
        number = max([found[ahead] + lengths[name] for name, ahead in arcs], default=0)
        found[event] = max(number, told.get(event, number)) + late.get(event, 0)
    return found


def _planned(web, rows, plan, lates):
    """All four with tuples, behind the checks; rows are RANGES or a RUN."""
    plan, lates = frozen(plan), frozen(lates)
    web, rows = _checked(web, rows, [event for event, _ in (*plan, *lates)])
    return web, rows, plan, lates


def plan_times(web, run, plan, lates):
    """The pairs (event, time) of all EVENTS in this RUN with PLAN and LATES."""
    web, run, plan, lates = _planned(web, run, plan, lates)
    found = _told_times(web, dict(run), plan, lates)
    return tuple([(event, found[event]) for event in web[0]])


def behind_plan(web, ranges, plan, lates):
    """The set of the EVENTS that are behind in some RUN."""
    return must_move(web, ranges, plan, lates)


def moved_plan(web, ranges, plan, lates):
    """The PLAN, none told earlier, that no EVENT is behind and that is at no EVENT later than any other such one."""
    web, ranges, plan, lates = _planned(web, ranges, plan, lates)
    # All happens latest with all names at high, and no later if what is behind is told when it happens.
    found = _told_times(web, highs_of(ranges), plan, lates)
    late = dict(lates)
    return tuple([(event, number if event in late else found[event]) for event, number in plan])


def must_move(web, ranges, plan, lates):
    """The set of the EVENTS that moved_plan tells later than the PLAN."""
    moved = moved_plan(web, ranges, plan, lates)
    return tuple([event for (event, number), (_, later) in zip(frozen(plan), moved) if later > number])


def greatest_kept(web, ranges, plan, one):
    """By how much one alone can be late, at the most, with no EVENT behind in any RUN; None if by however much."""
    plan = frozen(plan)
    web, ranges = _checked(web, ranges, [one, *[event for event, _ in plan]])
    if behind_plan(web, ranges, plan, ()):
        raise Unfit()
    lengths = highs_of(ranges)
    start = _told_times(web, lengths, plan, ())[one]
    after = _lengths_from(web, lengths, one)
    left = [number - start - after[event] for event, number in plan if event in after and event != one]
    return min(left, default=None)


def _lengths_from(web, lengths, one):
    """The greatest sum of lengths of ARCS from one to each EVENT to which it leads, and 0 to itself."""
    found = {one: 0}
    for event, arcs in laid_out(web):
        sums = [found[ahead] + lengths[name] for name, ahead in arcs if ahead in found]
        if sums:
            found[event] = max(sums)
    return found

"""Rules of the pilot [20]: when an EVENT will be, told by EVENTS that are seen."""

from slowship.common import all_sets, ascends, fewest_first, frozen, is_name, is_number, is_row
from slowship.common import need_events, need_ranges
from slowship.spreads import greatest_spread, is_late_way, late_ways, least_spread, never_behind
from slowship.times import slow_run, time_of, times, way_length

TOLD = " told"


def is_rule(web, event, thing):
    """Whether thing is a RULE for the EVENT."""
    web = frozen(web)
    need_events(web, (event,))
    if not isinstance(thing, tuple) or not thing or not all([_is_pair(part) for part in thing]):
        return False
    seen = [part[0] for part in thing]
    known = {other: True for other in web[0] if other != event}
    return ascends(seen) and all([other in known for other in seen])


def _is_pair(thing):
    """Whether thing is a pair of a NAME and of a number."""
    return is_row(thing, 2) and is_name(thing[0]) and is_number(thing[1])


def _checked(web, rows, events):
    """The first two with tuples, behind the checks; rows are RANGES or a RUN."""
    web, rows = frozen(web), frozen(rows)
    need_ranges(rows, (web,))
    need_events(web, events)
    return web, rows


def _with_rule(web, ranges, event, rule):
    """The WEB with an EVENT more, TOLD, the RANGES for it, and by how much later it happens than the RULE tells.

    An ARC leads to it from each that is seen. It is later where numbers are below 0: lengths are not.
    """
    web, ranges = _checked(web, ranges, (event, *[seen for seen, _ in rule]))
    more = max([0, *[-number for _, number in rule]])
    arcs = [(seen + TOLD, seen, TOLD) for seen, _ in rule]
    lengths = [(seen + TOLD, number + more, number + more) for seen, number in rule]
    told = tuple(sorted([TOLD, *web[0]])), tuple(sorted([*web[1], *arcs]))
    return told, tuple(sorted([*ranges, *lengths])), more


def told_by(web, run, rule):
    """What the RULE tells in the RUN."""
    rule = frozen(rule)
    web, run = _checked(web, run, [seen for seen, _ in rule])
    found = dict(times(web, run))
    return max([found[seen] + number for seen, number in rule])


def is_safe(web, ranges, event, rule):
    """Whether the EVENT happens, FOR ALL RUNS, no later than is told."""
    told, wide, more = _with_rule(web, ranges, event, frozen(rule))
    return never_behind(web, event, told, (TOLD,), wide, -more)


def is_tight(web, ranges, event, rule):
    """Whether the EVENT happens, FOR ALL RUNS, no earlier than is told."""
    rule = frozen(rule)
    web, ranges = _checked(web, ranges, (event, *[seen for seen, _ in rule]))
    return all([never_behind(web, seen, web, (event,), ranges, -number) for seen, number in rule])


def is_right(web, ranges, event, rule):
    """Whether the RULE is safe and tight."""
    return is_tight(web, ranges, event, rule) and is_safe(web, ranges, event, rule)


def most_early(web, ranges, event, rule):
    """The greatest number by which the EVENT happens behind what is told, FOR ALL RUNS."""
    told, wide, more = _with_rule(web, ranges, event, frozen(rule))
    return greatest_spread(web, event, told, (TOLD,), wide) + more


def _early_ways(web, ranges, event, rule):
    """The ascending list of the WAYS to the EVENT longer, in their slow RUN, than what is told in it."""
    told, wide, more = _with_rule(web, ranges, event, rule)
    return late_ways(web, event, told, (TOLD,), wide, -more)


def early_way(web, ranges, event, rule):
    """The WAY with the fewest ARCS, the least such, that is longer than what is told; None if the RULE is safe."""
    found = fewest_first(_early_ways(web, ranges, event, frozen(rule)))
    return found[0] if found else None


def is_early_way(web, ranges, event, rule, thing):
    """Whether thing is a WAY to the EVENT longer, in its slow RUN, than what is told in it."""
    told, wide, more = _with_rule(web, ranges, event, frozen(rule))
    return is_late_way(web, event, told, (TOLD,), wide, -more, thing)


def least_number(web, ranges, event, rule, seen):
    """The least number with which the pair (seen, number) makes the RULE safe; None if it is safe without."""
    rule = frozen(rule)
    web, ranges = _checked(web, ranges, (event, *[other for other, _ in rule], seen))
    if not rule:
        return greatest_spread(web, event, web, (seen,), ranges)
    # Just the WAYS that come too late for the RULE need the pair.
    return max([_behind_seen(web, ranges, seen, way) for way in _early_ways(web, ranges, event, rule)], default=None)


def _behind_seen(web, ranges, seen, way):
    """How much longer this WAY is, in its slow RUN, than the time of seen."""
    run = slow_run(ranges, way)
    return way_length(run, way) - time_of(web, run, seen)


def spare_seen(web, ranges, event, rule):
    """The set of the seen EVENTS without each of which alone a safe RULE is left."""
    rule = frozen(rule)
    web, ranges = _checked(web, ranges, (event, *[seen for seen, _ in rule]))
    if len(rule) == 1:
        return ()
    spare = []
    for seen, _ in rule:
        if is_safe(web, ranges, event, tuple([pair for pair in rule if pair[0] != seen])):
            spare.append(seen)
    return tuple(spare)


def tight_rule(web, ranges, event, some):
    """The greatest tight RULE that sees just some."""
    web, ranges = _checked(web, ranges, (event, *some))
    return tuple([(seen, least_spread(web, event, web, (seen,), ranges)) for seen in some])


def right_rule(web, ranges, event, some):
    """The greatest tight RULE that sees just some, if it is right; None otherwise."""
    rule = tight_rule(web, ranges, event, some)
    return rule if is_safe(web, ranges, event, rule) else None


def fewest_seen(web, ranges, event, some):
    """The fewest of some, the least such set, by which there is a right RULE; None if there is none."""
    rule = tight_rule(web, ranges, event, some)
    # More that is seen tells more, and no more than it ought to.
    if not is_safe(web, ranges, event, rule):
        return None
    for pairs in fewest_first(all_sets(rule))[1:]:
        if is_safe(web, ranges, event, pairs):
            return tuple([seen for seen, _ in pairs])
    return None

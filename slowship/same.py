"""Two plans side by side [8]: which EVENTS happen at the same moments in both."""

from slowship.common import frozen, is_number, is_row, need_events, need_ranges
from slowship.spreads import greatest_spread, is_late_way, late_way, least_spread, never_behind


def never_later(one, other, ranges, event):
    """Whether the EVENT is later in one in no RUN."""
    return never_behind(one, event, other, (event,), ranges, 0)


def later_span(one, other, ranges, event):
    """The least and the greatest number by which the EVENT is later in one."""
    least = least_spread(one, event, other, (event,), ranges)
    return least, greatest_spread(one, event, other, (event,), ranges)


def later_way(one, other, ranges, event):
    """A WAY to the EVENT in one that is longer, in its slow RUN, than its time in other; None if none is."""
    return late_way(one, event, other, (event,), ranges, 0)


def is_later_way(one, other, ranges, event, thing):
    """Whether thing is such a WAY."""
    return is_late_way(one, event, other, (event,), ranges, 0, thing)


def alike_at(one, other, ranges, event):
    """Whether the EVENT happens at the same moment in both, in each RUN."""
    return never_later(one, other, ranges, event) and never_later(other, one, ranges, event)


def _shared_events(one, other):
    """The set of the EVENTS of both."""
    events = {event: True for event in frozen(other)[0]}
    return tuple([event for event in frozen(one)[0] if event in events])


def alike_events(one, other, ranges):
    """The set of the EVENTS of both that are alike."""
    need_ranges(frozen(ranges), (frozen(one), frozen(other)))
    return tuple([event for event in _shared_events(one, other) if alike_at(one, other, ranges, event)])


def least_unlike(one, other, ranges):
    """The least EVENT of both that is not alike; None if there is none."""
    need_ranges(frozen(ranges), (frozen(one), frozen(other)))
    for event in _shared_events(one, other):
        if not alike_at(one, other, ranges, event):
            return event
    return None


def are_alike(one, other, ranges):
    """Whether both have the same EVENTS, all of them alike."""
    unlike = least_unlike(one, other, ranges)
    return frozen(one)[0] == frozen(other)[0] and unlike is None


def unlike_paper(one, other, ranges, event):
    """A pair (which, way) that shows that the EVENT is not alike; None if it is."""
    way = later_way(one, other, ranges, event)
    if way is not None:
        return 0, way
    way = later_way(other, one, ranges, event)
    return None if way is None else (1, way)


def is_unlike_paper(one, other, ranges, event, thing):
    """Whether thing is such a pair."""
    need_ranges(frozen(ranges), (frozen(one), frozen(other)))
    need_events(frozen(one), (event,))
    need_events(frozen(other), (event,))
    if not is_row(thing, 2) or not is_number(thing[0]) or thing[0] not in (0, 1):
        return False
    if thing[0] == 0:
        return is_later_way(one, other, ranges, event, thing[1])
    return is_later_way(other, one, ranges, event, thing[1])


def shared_arcs(one, other):
    """The set of the names that ARCS of both have between the same EVENTS."""
    arcs = {arc: True for arc in frozen(other)[1]}
    return tuple([arc[0] for arc in frozen(one)[1] if arc in arcs])

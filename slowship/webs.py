"""Webs [4]: EVENTS, the ARCS between them, RANGES and RUNS."""

from slowship.common import arc_pairs, ascends, frozen, in_order, is_name, is_name_row, is_name_set, is_number, is_row
from slowship.common import need_events, reached
from slowship.errors import NoArc, Ring, Twice


def is_web(thing):
    """Whether thing is a WEB, however great."""
    if not is_row(thing, 2) or not is_name_set(thing[0]) or not _are_arcs(thing[1]):
        return False
    events = {event: True for event in thing[0]}
    if not all([ahead in events and behind in events for ahead, behind in arc_pairs(thing)]):
        return False
    return len(in_order(thing)) == len(events)


def _are_arcs(thing):
    """Whether thing is an ascending tuple of triples of NAMES, no first one twice."""
    if not isinstance(thing, tuple) or not all([is_row(arc, 3) and is_name_row(arc) for arc in thing]):
        return False
    return ascends([arc[0] for arc in thing])


def is_ranges(thing):
    """Whether thing is RANGES, however many."""
    if not isinstance(thing, tuple) or not all([_is_range(part) for part in thing]):
        return False
    return ascends([part[0] for part in thing])


def _is_range(thing):
    if not is_row(thing, 3) or not is_name(thing[0]):
        return False
    return is_number(thing[1]) and is_number(thing[2]) and 0 <= thing[1] <= thing[2]


def is_run(ranges, thing):
    """Whether thing is a RUN of the RANGES."""
    ranges = frozen(ranges)
    if not is_row(thing, len(ranges)):
        return False
    return all([_is_within(part, bounds) for part, bounds in zip(thing, ranges)])


def _is_within(thing, bounds):
    """Whether thing is a pair of the name of bounds and a length that bounds allow."""
    if not is_row(thing, 2) or not is_number(thing[1]):
        return False
    name, low, high = bounds
    return thing[0] == name and low <= thing[1] <= high


def is_way(web, event, thing):
    """Whether thing is a WAY to this EVENT."""
    web = frozen(web)
    need_events(web, (event,))
    arcs = {arc[0]: arc for arc in web[1]}
    if not is_name_row(thing) or not all([name in arcs for name in thing]):
        return False
    places = [*[arcs[name][1] for name in thing], event]
    if places[1:] != [arcs[name][2] for name in thing]:
        return False
    return not arcs_into(web, places[0])


def arcs_into(web, event):
    """The set of the names of the ARCS that lead into the EVENT."""
    web = frozen(web)
    need_events(web, (event,))
    return tuple([name for name, _, behind in web[1] if behind == event])


def arcs_from(web, event):
    """The set of the names of the ARCS that lead away from the EVENT."""
    web = frozen(web)
    need_events(web, (event,))
    return tuple([name for name, ahead, _ in web[1] if ahead == event])


def leads_to(web, event):
    """The set of the EVENTS to which the EVENT leads."""
    web = frozen(web)
    need_events(web, (event,))
    return tuple(reached(event, arc_pairs(web)))


def comes_from(web, event):
    """The set of the EVENTS that lead to the EVENT."""
    web = frozen(web)
    need_events(web, (event,))
    return tuple(reached(event, [(behind, ahead) for ahead, behind in arc_pairs(web)]))


def in_turn(web):
    """All EVENTS, each one behind all that lead to it, the least that can be next each time."""
    return tuple(in_order(frozen(web)))


def with_event(web, event):
    """The WEB with this EVENT more."""
    events, arcs = frozen(web)
    if event in events:
        raise Twice(event)
    return tuple(sorted([*events, event])), arcs


def without_event(web, event):
    """The WEB without this EVENT and the ARCS at it."""
    events, arcs = frozen(web)
    need_events((events, arcs), (event,))
    left = tuple([arc for arc in arcs if event not in arc[1:]])
    return tuple([other for other in events if other != event]), left


def with_arc(web, name, ahead, behind):
    """The WEB with this ARC more."""
    events, arcs = frozen(web)
    if _has_arc(arcs, name):
        raise Twice(name)
    need_events((events, arcs), (ahead, behind))
    if behind == ahead or ahead in leads_to((events, arcs), behind):
        raise Ring()
    return events, tuple(sorted([*arcs, (name, ahead, behind)]))


def without_arc(web, name):
    """The WEB without this ARC."""
    events, arcs = frozen(web)
    if not _has_arc(arcs, name):
        raise NoArc(name)
    return events, tuple([arc for arc in arcs if arc[0] != name])


def _has_arc(arcs, name):
    return any([arc[0] == name for arc in arcs])


def renamed_arcs(web, pairs):
    """The WEB with other names for some ARCS, all at once."""
    events, arcs = frozen(web)
    called = dict(frozen(pairs))
    for name in called:
        if not _has_arc(arcs, name):
            raise NoArc(name)
    return events, tuple(sorted([(called.get(name, name), ahead, behind) for name, ahead, behind in arcs]))


def shared_names(one, other):
    """The set of the names that ARCS of both WEBS have."""
    names = {arc[0]: True for arc in frozen(other)[1]}
    return tuple([arc[0] for arc in frozen(one)[1] if arc[0] in names])


def with_range(ranges, name, low, high):
    """The RANGES with this one, in the place of one of this name."""
    others = [part for part in frozen(ranges) if part[0] != name]
    return tuple(sorted([*others, (name, low, high)]))

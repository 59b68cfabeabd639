"""Order [7]: which EVENTS are surely ahead of which, FOR ALL RUNS."""

from slowship.common import frozen, need_events, need_ranges
from slowship.spreads import is_late_way, late_way, never_behind


def surely_ahead(web, ranges, one, other):
    """Whether one is surely ahead of other."""
    return never_behind(web, one, web, (other,), ranges, 0)


def order_pairs(web, ranges):
    """The set of the pairs of unlike EVENTS, the first one surely ahead of the second one."""
    web, ranges = frozen(web), frozen(ranges)
    need_ranges(ranges, (web,))
    return tuple([pair for pair in _unlike_pairs(web[0]) if surely_ahead(web, ranges, pair[0], pair[1])])


def _unlike_pairs(parts):
    return [(one, other) for one in parts for other in parts if one != other]


def open_pairs(web, ranges):
    """The set of the pairs of EVENTS, the lesser first, neither of which is surely ahead."""
    ahead = _ahead(web, ranges)
    pairs = [(one, other) for one, other in _unlike_pairs(frozen(web)[0]) if one < other]
    return tuple([(one, other) for one, other in pairs if (one, other) not in ahead and (other, one) not in ahead])


def _ahead(web, ranges):
    """A dict with the order_pairs as its keys."""
    return {pair: True for pair in order_pairs(web, ranges)}


def classes(web, ranges):
    """The set of the sets of EVENTS that are together."""
    return _classes_by(frozen(web)[0], _ahead(web, ranges))


def _classes_by(events, ahead):
    # The least EVENT of a class stands for it, so each class comes once, and they ascend.
    rows = [_together(events, ahead, event) for event in events]
    return tuple([row for event, row in zip(events, rows) if row[0] == event])


def _together(events, ahead, event):
    """The set of the EVENTS that are together with this one, itself among them."""
    return tuple([one for one in events if one == event or ((one, event) in ahead and (event, one) in ahead)])


def steps(web, ranges):
    """The set of the pairs of unlike classes, the first one next ahead of the second one."""
    ahead = _ahead(web, ranges)
    rows = _classes_by(frozen(web)[0], ahead)
    pairs = [(one, other) for one, other in _unlike_pairs(rows) if (one[0], other[0]) in ahead]
    known = {pair: True for pair in pairs}
    return tuple([(one, other) for one, other in pairs if not _has_between(rows, known, one, other)])


def _has_between(rows, known, one, other):
    """Whether a third class is between both."""
    return any([(one, row) in known and (row, other) in known for row in rows])


def can_be_last(web, ranges, events):
    """The set of those of events that happen last of them in some RUN."""
    web, ranges, events = _checked(web, ranges, events)
    return tuple([event for event in events if _is_last(web, ranges, event, events)])


def _checked(web, ranges, events):
    """All three with tuples, behind the checks."""
    web, ranges, events = frozen(web), frozen(ranges), frozen(events)
    need_ranges(ranges, (web,))
    need_events(web, events)
    return web, ranges, events


def _is_last(web, ranges, event, events):
    """Whether the EVENT happens behind, or with, all of events, itself among them, in some RUN."""
    return not never_behind(web, event, web, events, ranges, -1)


def surely_last(web, ranges, events):
    """The set of those of events that happen last of them in each RUN."""
    web, ranges, events = _checked(web, ranges, events)
    return tuple([event for event in events if _is_behind_all(web, ranges, event, events)])


def _is_behind_all(web, ranges, event, events):
    return all([surely_ahead(web, ranges, other, event) for other in events])


def is_sure_row(web, ranges, row):
    """Whether each EVENT of the row is surely ahead of the next one."""
    web, ranges, row = _checked(web, ranges, row)
    return all([surely_ahead(web, ranges, one, other) for one, other in zip(row, row[1:])])


def order_paper(web, ranges, one, other):
    """A WAY to one that is longer, in its slow RUN, than the time of other; None if one is surely ahead."""
    return late_way(web, one, web, (other,), ranges, 0)


def is_order_paper(web, ranges, one, other, thing):
    """Whether thing is such a WAY."""
    return is_late_way(web, one, web, (other,), ranges, 0, thing)

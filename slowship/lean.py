"""Waits that are not needed [10]: ARCS without which each EVENT happens when it did, FOR ALL RUNS."""

from slowship.common import all_sets, ends_of, fewest_first, frozen, need_arcs, need_ranges
from slowship.spreads import late_way
from slowship.times import slow_run, time_of, times
from slowship.webs import arcs_into, is_run, is_way, without_arc


def decides(web, run, name):
    """Whether the EVENT to which this ARC leads would happen earlier in the RUN without it."""
    web, run = frozen(web), frozen(run)
    need_ranges(run, (web,))
    need_arcs(web[1], (name,))
    event = ends_of(web)[name][1]
    return time_of(web, run, event) > time_of(without_arc(web, name), run, event)


def needless(web, ranges):
    """The set of the ARCS each of which can go by itself."""
    web, ranges = frozen(web), frozen(ranges)
    return tuple([arc[0] for arc in web[1] if can_go(web, ranges, (arc[0],))])


def deciding_way(web, ranges, name):
    """A WAY whose last ARC this is in whose slow RUN it decides; None if it is needless."""
    found = _behind_all(web, ranges, (name,))
    return None if found is None else found[2]


def is_deciding_way(web, ranges, name, thing):
    """Whether thing is such a WAY."""
    web, ranges = frozen(web), frozen(ranges)
    need_ranges(ranges, (web,))
    need_arcs(web[1], (name,))
    # The EVENT has an ARC into it: so () is no WAY to it.
    if not is_way(web, ends_of(web)[name][1], thing) or thing[-1] != name:
        return False
    return decides(web, slow_run(ranges, thing), name)


def can_go(web, ranges, some):
    """Whether each EVENT happens at the same moment in each RUN without these ARCS."""
    return _behind_all(web, ranges, some) is None


def held_by(web, ranges, some):
    """The least pair (event, name) of an ARC of some that is behind all that stay in some RUN; None if none is."""
    found = _behind_all(web, ranges, some)
    return None if found is None else found[:2]


def needing_run(web, ranges, some):
    """A RUN in which some EVENT happens earlier without these ARCS; None if they can go."""
    found = _behind_all(web, ranges, some)
    return None if found is None else slow_run(ranges, found[2])


def _behind_all(web, ranges, some):
    """The least pair that held_by tells, and a WAY over this ARC in whose slow RUN it is so; None if they can go.

    No ARC into an EVENT moves what is ahead of it: so each EVENT is looked at by itself.
    """
    web, ranges, some = frozen(web), frozen(ranges), frozen(some)
    need_ranges(ranges, (web,))
    need_arcs(web[1], some)
    gone = {name: True for name in some}
    for event, name in sorted([(behind, name) for name, _, behind in web[1] if name in gone]):
        staying = [other for other in arcs_into(web, event) if other not in gone]
        way = late_way(_with_into(web, event, (name,)), event, _with_into(web, event, staying), (event,), ranges, 0)
        if way is not None:
            return event, name, way
    return None


def _with_into(web, event, names):
    """The WEB with just these of the ARCS into the EVENT."""
    return web[0], tuple([arc for arc in web[1] if arc[2] != event or arc[0] in names])


def is_needing_run(web, ranges, some, thing):
    """Whether thing is a RUN in which some EVENT happens earlier without these ARCS."""
    web, ranges, some = frozen(web), frozen(ranges), frozen(some)
    need_ranges(ranges, (web,))
    need_arcs(web[1], some)
    left = tuple([arc for arc in web[1] if arc[0] not in some])
    return is_run(ranges, thing) and times(web, thing) != times((web[0], left), thing)


def pairs_apart(web, ranges):
    """The ascending list of the pairs (first, second) of needless ARCS that can not both go."""
    web, ranges = frozen(web), frozen(ranges)
    goal = {name: behind for name, _, behind in web[1]}
    free = needless(web, ranges)
    pairs = [(one, other) for one in free for other in free if one < other and goal[one] == goal[other]]
    return [pair for pair in pairs if not can_go(web, ranges, pair)]


def enough_sets(web, ranges, event):
    """The ascending list of all sets of ARCS into the EVENT that are enough."""
    web, ranges = frozen(web), frozen(ranges)
    need_ranges(ranges, (web,))
    into = arcs_into(web, event)
    return [kept for kept in all_sets(into) if _is_enough(web, ranges, into, kept)]


def _is_enough(web, ranges, into, kept):
    """Whether of the ARCS into an EVENT all but those that are kept can go."""
    return can_go(web, ranges, tuple([name for name in into if name not in kept]))


def fewest_into(web, ranges, event):
    """The least of the sets of the fewest ARCS into the EVENT that are enough."""
    web, ranges = frozen(web), frozen(ranges)
    need_ranges(ranges, (web,))
    into = arcs_into(web, event)
    for kept in fewest_first(all_sets(into)):
        if _is_enough(web, ranges, into, kept):
            return kept
    return into


def lean_web(web, ranges):
    """The WEB with just the ARCS that fewest_into tells for each EVENT."""
    web, ranges = frozen(web), frozen(ranges)
    kept = {name: True for event in web[0] for name in fewest_into(web, ranges, event)}
    return web[0], tuple([arc for arc in web[1] if arc[0] in kept])


def is_lean(web, ranges):
    """Whether no ARC is needless."""
    return needless(web, ranges) == ()

"""Tugs [13]: how few of them do all TOWS, one behind another."""

from slowship.common import ascends, come_by, frozen, is_name_row, is_name_set, is_row, laid_out, most_apart
from slowship.common import need_ranges, times_by
from slowship.errors import NoShip
from slowship.spreads import greatest_spread, is_late_way, late_way, never_behind

START = "start"
GOAL = "goal"


def is_tows(web, ranges, thing):
    """Whether thing is TOWS, of however many."""
    web, ranges = frozen(web), frozen(ranges)
    need_ranges(ranges, (web,))
    if not isinstance(thing, tuple) or not all([is_row(part, 5) and is_name_row(part) for part in thing]):
        return False
    lows = {name: low for name, low, _ in ranges}
    moving = {(ahead, behind): True for name, ahead, behind in web[1] if lows[name] >= 1}
    return ascends([tow[0] for tow in thing]) and all([(tow[1], tow[2]) in moving for tow in thing])


def _checked(web, ranges, tows, ships):
    """The first three with tuples, behind the checks."""
    web, ranges, tows = frozen(web), frozen(ranges), frozen(tows)
    need_ranges(ranges, (web,))
    known = {tow[0] for tow in tows}
    for ship in ships:
        if ship not in known:
            raise NoShip(ship)
    return web, ranges, tows


def _is_turn(web, ranges, one, other):
    """Whether behind the TOW one a tug is where other begins, and in each RUN has begun ahead of it."""
    return one[4] == other[3] and never_behind(web, one[1], web, (other[1],), ranges, -1)


def turn_late(web, ranges, tows, pause, one, other):
    """The lateness of this turn; None if it is none."""
    web, ranges, tows = _checked(web, ranges, tows, (one, other))
    rows = {tow[0]: tow for tow in tows}
    if not _is_turn(web, ranges, rows[one], rows[other]):
        return None
    return greatest_spread(web, rows[one][2], web, (rows[other][1],), ranges) + pause


def _turns(web, ranges, tows, pause, number):
    """The ascending list of the turns of a lateness up to the number."""
    web, ranges, tows = _checked(web, ranges, tows, ())
    found = []
    for one in tows:
        for other in tows:
            if _is_turn(web, ranges, one, other):
                if never_behind(web, one[2], web, (other[1],), ranges, number - pause):
                    found.append((one[0], other[0]))
    return found


def sure_turns(web, ranges, tows, pause):
    """The set of the sure turns."""
    return tuple(_turns(web, ranges, tows, pause, 0))


def _pairing(tows, turns):
    """The pair of ARCS over which turns lead from START to GOAL, and of those that are used by the most of them.

    No two of these begin with one ship, or end with one: a row of ships is made of such turns.
    """
    pairs = [((0, one), (1, other)) for one, other in turns]
    pairs.extend([(START, (0, tow[0])) for tow in tows])
    pairs.extend([((1, tow[0]), GOAL) for tow in tows])
    arcs = [(pair, *pair) for pair in pairs]
    return arcs, most_apart(arcs, START, GOAL)


def _next_ships(tows, turns):
    """For each ship behind which a tug goes on the next one, for as few tugs as can be."""
    _, used = _pairing(tows, turns)
    return {one: other for one, other in turns if ((0, one), (1, other)) in used}


def _fewest(tows, turns):
    """How few tugs are enough if these are their turns."""
    return len(tows) - len(_next_ships(tows, turns))


def fewest_tugs(web, ranges, tows, pause):
    """How few tuples a ROSTER has."""
    return _fewest(frozen(tows), sure_turns(web, ranges, tows, pause))


def a_roster(web, ranges, tows, pause):
    """A ROSTER of so few tuples."""
    tows = frozen(tows)
    after = _next_ships(tows, sure_turns(web, ranges, tows, pause))
    later = {other: True for other in after.values()}
    rows = []
    for tow in tows:
        if tow[0] not in later:
            rows.append(_row_from(tow[0], after))
    return tuple(rows)


def _row_from(ship, after):
    """The tuple of this ship and all that come next, one behind another."""
    row = [ship]
    while row[-1] in after:
        row.append(after[row[-1]])
    return tuple(row)


def is_roster(web, ranges, tows, pause, thing):
    """Whether thing is a ROSTER, of however many tuples."""
    turns = {turn: True for turn in sure_turns(web, ranges, tows, pause)}
    if not isinstance(thing, tuple) or not all([is_name_row(row) and row for row in thing]) or not ascends(thing):
        return False
    if sorted([ship for row in thing for ship in row]) != [tow[0] for tow in tows]:
        return False
    return all([turn in turns for row in thing for turn in zip(row, row[1:])])


def a_cover(web, ranges, tows, pause):
    """A COVER of as few ships as can be."""
    tows = frozen(tows)
    arcs, used = _pairing(tows, sure_turns(web, ranges, tows, pause))
    # What can still be reached, though no turn more can be paired, tells where each turn is covered.
    came = come_by(arcs, used, START)
    ones = tuple([tow[0] for tow in tows if (0, tow[0]) not in came])
    return ones, tuple([tow[0] for tow in tows if (1, tow[0]) in came])


def is_cover(web, ranges, tows, pause, thing):
    """Whether thing is a COVER."""
    turns = sure_turns(web, ranges, tows, pause)
    if not is_row(thing, 2) or not is_name_set(thing[0]) or not is_name_set(thing[1]):
        return False
    ships = {tow[0]: True for tow in frozen(tows)}
    if not all([ship in ships for part in thing for ship in part]):
        return False
    return all([one in thing[0] or other in thing[1] for one, other in turns])


def late_turn(web, ranges, tows, pause, one, other):
    """A late WAY for - pause of ends of one behind begins of other; None if there is none, or this is no turn."""
    if turn_late(web, ranges, tows, pause, one, other) is None:
        return None
    rows = {tow[0]: tow for tow in frozen(tows)}
    return late_way(web, rows[one][2], web, (rows[other][1],), ranges, -pause)


def is_late_turn(web, ranges, tows, pause, one, other, thing):
    """Whether this is a turn and thing such a WAY."""
    if turn_late(web, ranges, tows, pause, one, other) is None:
        return False
    rows = {tow[0]: tow for tow in frozen(tows)}
    return is_late_way(web, rows[one][2], web, (rows[other][1],), ranges, -pause, thing)


def fewest_let(web, ranges, tows, pause, number):
    """How few tugs are enough if turns of a lateness up to the number are let."""
    return _fewest(frozen(tows), _turns(web, ranges, tows, pause, number))


def least_let(web, ranges, tows, pause, number):
    """The least lateness to let so that so many tugs are enough; None if there is none."""
    web, ranges, tows = _checked(web, ranges, tows, ())
    late = {}
    for one in tows:
        for other in tows:
            found = turn_late(web, ranges, tows, pause, one[0], other[0])
            if found is not None:
                late[one[0], other[0]] = found
    for let in [0, *sorted([found for found in late.values() if found > 0])]:
        turns = [turn for turn in late if late[turn] <= let]
        if _fewest(tows, turns) <= number:
            return let
    return None


def tugs_in(web, tows, pause, run):
    """How few tugs are enough in this RUN."""
    web, tows, run = frozen(web), frozen(tows), frozen(run)
    need_ranges(run, (web,))
    found = times_by(laid_out(web), dict(run))
    turns = []
    for one in tows:
        for other in tows:
            if one[4] == other[3] and found[one[2]] + pause <= found[other[1]]:
                turns.append((one[0], other[0]))
    return _fewest(tows, turns)

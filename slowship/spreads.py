"""Spreads [6]: how far an EVENT of one WEB is behind EVENTS of another one."""

from slowship.common import first_place, frozen, highs_of, in_order, laid_out, leads_on, longer_ways, lows_of
from slowship.common import need_events, need_ranges, places_back, times_by
from slowship.times import slow_run
from slowship.webs import is_run, is_way


class Hunt:
    """Seeks the WAYS to an EVENT of one WEB that are far behind EVENTS of other.

    A WAY is built name by name. Its spread is never above what its first names let hope for: behind
    them comes no more than the most that all at high can be, and more names at high make no EVENT
    of other earlier.
    """

    def __init__(self, one, event, other, events, ranges):
        self.goal = event
        self.marks = events
        self.lows = lows_of(ranges)
        self.highs = highs_of(ranges)
        self.least = self.least_on(other)
        self.rows = [row for row in laid_out(other) if row[0] in self.least]
        self.onward = leads_on(one, event)
        self.start = first_place(self.onward, event)
        self.rest = self.most_left(one)
        self.gain = self.most_gained(one, other)

    def least_on(self, other):
        """The greatest length, all at low, from each EVENT of other that leads on to a mark."""
        least = {mark: 0 for mark in self.marks}
        for event, arcs in reversed(laid_out(other)):
            if event in least:
                for name, ahead in arcs:
                    least[ahead] = max(least.get(ahead, 0), least[event] + self.lows[name])
        return least

    def most_left(self, one):
        """The greatest length from each place on to the goal, all at high."""
        rest = {self.goal: 0}
        for place in places_back(one, self.onward):
            rest[place] = max([self.highs[name] + rest[behind] for name, behind in self.onward[place]])
        return rest

    def most_gained(self, one, other):
        """From each place on by how much more a WAY can grow than the marks are delayed, if they surely are.

        An ARC of both WEBS that is at high delays what is behind it in other as it makes the WAY longer.
        """
        arcs = {arc: True for arc in other[1]}
        shared = {arc[0]: True for arc in one[1] if arc in arcs}
        gain = {place: self.rest[place] - self.least[place] for place in self.rest if place in self.least}
        for place in places_back(one, self.onward):
            steps = self.onward[place]
            if place in gain and all([name in shared and behind in gain for name, behind in steps]):
                gain[place] = min(gain[place], max([gain[behind] for _, behind in steps]))
        return gain

    def hope(self, place, way):
        """What the spread of a WAY can be at the most that begins so: at the goal, what it is."""
        lengths = dict(self.lows)
        for name in way:
            lengths[name] = self.highs[name]
        found = times_by(self.rows, lengths)
        length = sum([self.highs[name] for name in way])
        hope = length + self.rest[place] - max([found[event] for event in self.marks])
        return min(hope, length - found[place] + self.gain[place]) if place in self.gain else hope

    def late(self, number, most):
        """The ascending list of the late WAYS for the number; of the least ones, most (None: of all)."""
        found = []
        waiting = [(self.start, ())]
        while waiting and len(found) != most:
            place, way = waiting.pop()
            if self.hope(place, way) <= number:
                continue
            if place == self.goal:
                found.append(way)
            else:
                waiting.extend(longer_ways(self.onward, place, way))
        return found

    def furthest(self):
        """The pair of the greatest spread and of a WAY that brings it."""
        best = None
        waiting = [(self.start, ())]
        while waiting:
            place, way = waiting.pop()
            hope = self.hope(place, way)
            if best is not None and hope <= best[0]:
                continue
            if place == self.goal:
                best = (hope, way)
            else:
                waiting.extend(longer_ways(self.onward, place, way))
        return best


def _need(one, event, other, events, rows):
    need_ranges(rows, (one, other))
    need_events(one, (event,))
    need_events(other, events)


def _hunt(one, event, other, events, ranges):
    """The Hunt, behind all checks."""
    one, other, events, ranges = frozen(one), frozen(other), frozen(events), frozen(ranges)
    _need(one, event, other, events, ranges)
    return Hunt(one, event, other, events, ranges)


def spread(one, event, other, events, run):
    """The spread in the RUN."""
    one, other, events, run = frozen(one), frozen(other), frozen(events), frozen(run)
    _need(one, event, other, events, run)
    return _spread_by(laid_out(one), event, laid_out(other), events, dict(run))


def _spread_by(one_rows, event, other_rows, events, lengths):
    found = times_by(other_rows, lengths)
    return times_by(one_rows, lengths)[event] - max([found[mark] for mark in events])


def greatest_spread(one, event, other, events, ranges):
    """The greatest spread in all RUNS."""
    return _hunt(one, event, other, events, ranges).furthest()[0]


def least_spread(one, event, other, events, ranges):
    """The least spread in all RUNS."""
    return -_least_behind(one, event, other, events, ranges)[0]


def _least_behind(one, event, other, events, ranges):
    """By how much the last of events is behind the EVENT at the most, and a WAY that brings it."""
    one, other, events, ranges = frozen(one), frozen(other), frozen(events), frozen(ranges)
    _need(one, event, other, events, ranges)
    return max([Hunt(other, mark, one, (event,), ranges).furthest() for mark in events])


def never_behind(one, event, other, events, ranges, number):
    """Whether the spread is in no RUN above the number."""
    return late_way(one, event, other, events, ranges, number) is None


def late_way(one, event, other, events, ranges, number):
    """A late WAY for the number; None if there is none."""
    found = _hunt(one, event, other, events, ranges).late(number, 1)
    return found[0] if found else None


def late_ways(one, event, other, events, ranges, number):
    """The ascending list of all late WAYS for the number."""
    return _hunt(one, event, other, events, ranges).late(number, None)


def is_late_way(one, event, other, events, ranges, number, thing):
    """Whether thing is a late WAY for the number."""
    hunt = _hunt(one, event, other, events, ranges)
    return is_way(one, event, thing) and hunt.hope(event, thing) > number


def spread_run(one, event, other, events, ranges, number):
    """A RUN in which the spread is just this number; None if there is none.

    It lies on the way from the RUN of the least spread to that of the greatest one, by which one
    name after the other changes: each of them alone changes the spread by one at a time, up or
    down throughout.
    """
    one, other, events, ranges = frozen(one), frozen(other), frozen(events), frozen(ranges)
    behind, fast_way = _least_behind(one, event, other, events, ranges)
    greatest, slow_way = Hunt(one, event, other, events, ranges).furthest()
    if not -behind <= number <= greatest:
        return None
    rows = laid_out(one), laid_out(other)
    lengths = dict(slow_run(ranges, fast_way))
    for name, aim in slow_run(ranges, slow_way):
        lengths[name] = _stop_at(rows, event, events, lengths, name, aim, number)
    return tuple([(row[0], lengths[row[0]]) for row in ranges])


def _stop_at(rows, event, events, lengths, name, aim, number):
    """The length of the name with which the spread is the number; aim if it stays below up to there."""
    one_rows, other_rows = rows
    near, far = lengths[name], aim
    if _spread_by(one_rows, event, other_rows, events, lengths) >= number:
        return near
    if _spread_by(one_rows, event, other_rows, events, {**lengths, name: aim}) < number:
        return aim
    while abs(far - near) > 1:
        middle = (near + far) // 2
        if _spread_by(one_rows, event, other_rows, events, {**lengths, name: middle}) < number:
            near = middle
        else:
            far = middle
    return far


def is_spread_run(one, event, other, events, ranges, number, thing):
    """Whether thing is a RUN in which the spread is just this number."""
    one, other, events, ranges = frozen(one), frozen(other), frozen(events), frozen(ranges)
    _need(one, event, other, events, ranges)
    return is_run(ranges, thing) and spread(one, event, other, events, thing) == number

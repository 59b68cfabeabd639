"""Lateness that dies out [19]: DELAYS of one day, and how far EVENTS of a DAILY are apart."""

from slowship.common import frozen, reached
from slowship.days import airs_of, by_day, laid_out_days, lap_air, laps, line_pairs
from slowship.days import need_line, need_told, next_day, played_with
from slowship.errors import Unfit
from slowship.spreads import greatest_spread

LETTERS = "abcdefghijklmnopqrstuvwxy"
MOST_SPANNED = 2


def delayed(daily, delay, runs):
    """The list, day by day, of the pairs (event, time), with the DELAY."""
    daily, delay, runs = frozen(daily), frozen(delay), frozen(runs)
    need_told(daily, delay[:1])
    return by_day(daily, played_with(daily, dict([delay]), runs))


def _checked(daily, ranges, events):
    """The first two with tuples, behind the checks."""
    daily, ranges = frozen(daily), frozen(ranges)
    need_line(daily, ranges, events)
    if min(list(airs_of(daily, ranges).values()), default=0) < 0:
        raise Unfit()
    return daily, ranges


class Lateness:
    """By how much each EVENT can be late, with a DELAY, day by day: most if all is as long as it can be."""

    def __init__(self, daily, ranges, delay):
        self.lines = laid_out_days(daily)
        self.fewer = {name: -number for name, number in airs_of(daily, ranges).items()}
        self.none = {event: 0 for event, _ in daily[1]}
        self.days = [next_day(self.lines, [], {**self.none, delay[0]: delay[1]}, self.fewer)]

    def go_on(self):
        """Tell of one day more."""
        self.days.append(next_day(self.lines, self.days, self.none, self.fewer))

    def is_late(self, day):
        """Whether somebody is late on this day."""
        return max(list(self.days[day].values())) > 0


def late_on(daily, ranges, delay, day):
    """The pairs (event, number) of the EVENTS that can be late on this day, with the greatest number."""
    delay = frozen(delay)
    daily, ranges = _checked(daily, ranges, delay[:1])
    lateness = Lateness(daily, ranges, delay)
    for _ in range(day):
        lateness.go_on()
    return tuple([(event, number) for event, number in sorted(lateness.days[day].items()) if number > 0])


def dies_out(daily, ranges, event):
    """Whether each DELAY of this EVENT, however great, is over some day."""
    return airless_lap(daily, ranges, event) is None


def airless_lap(daily, ranges, event):
    """The least LAP with air 0 to which this EVENT leads, or on which it is; None if there is none."""
    daily, ranges = _checked(daily, ranges, (event,))
    return min(_airless_laps(daily, ranges, event), default=None)


def _airless_laps(daily, ranges, event):
    """The ascending list of the LAPS with air 0 to which this EVENT leads, or on which it is."""
    near = {other: True for other in [event, *reached(event, line_pairs(daily))]}
    start = {arc[0]: arc[1] for arc in daily[2]}
    return [lap for lap in laps(daily) if start[lap[0]] in near and lap_air(daily, ranges, lap) == 0]


def is_airless_lap(daily, ranges, event, thing):
    """Whether thing is a LAP with air 0 to which this EVENT leads, or on which it is."""
    daily, ranges = _checked(daily, ranges, (event,))
    return thing in _airless_laps(daily, ranges, event)


def days_late(daily, ranges, delay):
    """The least day on which the DELAY is over; None if there is none."""
    delay = frozen(delay)
    daily, ranges = _checked(daily, ranges, delay[:1])
    start = {arc[0]: arc[1] for arc in daily[2]}
    borne = _made_good(daily, ranges, delay[0])
    if any([borne[start[lap[0]]] < delay[1] for lap in _airless_laps(daily, ranges, delay[0])]):
        return None
    # On each other LAP some of the lateness is made good: so there comes a day on which none is left.
    lateness = Lateness(daily, ranges, delay)
    wide = max([1, *[arc[3] for arc in daily[2]]])
    over = 0
    day = 0
    while day < over + wide:
        if lateness.is_late(day):
            over = day + 1
        lateness.go_on()
        day += 1
    return over


def _made_good(daily, ranges, event):
    """For this EVENT, and each one to which it leads, how much lateness is made good up to there at the least."""
    airs = airs_of(daily, ranges)
    found = {event: 0}
    for _ in daily[1]:
        for name, ahead, behind, _ in daily[2]:
            if ahead in found:
                air = found[ahead] + airs[name]
                found[behind] = min(found.get(behind, air), air)
    return found


def most_borne(daily, ranges, event, some):
    """By how much this EVENT can be delayed, at the most, with none of some ever late; None if by however much."""
    daily, ranges = _checked(daily, ranges, (event, *some))
    made_good = _made_good(daily, ranges, event)
    return min([made_good[other] for other in some if other in made_good], default=None)


def days_web(daily, ranges, many):
    """The WEB, with its RANGES, of the days below many."""
    daily, ranges = frozen(daily), frozen(ranges)
    need_line(daily, ranges, ())
    return _web_of_days(daily, ranges, LETTERS[:many])


def _web_of_days(daily, ranges, marks):
    """The WEB, with its RANGES, of as many days as there are marks: names have that of their day behind them."""
    bounds = {name: (low, high) for name, low, high in ranges}
    events, arcs, lengths = ["begin"], [], []
    for day, mark in enumerate(marks):
        for event, number in daily[1]:
            events.append(event + mark)
            arcs.append((event + mark + "z", "begin", event + mark))
            lengths.append((event + mark + "z", number + day * daily[0], number + day * daily[0]))
        for name, ahead, behind, days in daily[2]:
            if days <= day:
                arcs.append((name + mark, ahead + marks[day - days], behind + mark))
                lengths.append((name + mark, *bounds[name]))
    return (tuple(sorted(events)), tuple(sorted(arcs))), tuple(sorted(lengths))


def spans(daily, ranges):
    """The most days that a dragging row spans, 0 if there is none; None if some span more than 2."""
    daily, ranges = frozen(daily), frozen(ranges)
    need_line(daily, ranges, ())
    airs = airs_of(daily, ranges)
    # Of all rows that end at an EVENT and span so many days the one with the least air drags the most others.
    least = [{event: 0 for event, _ in daily[1]}, {}, {}]
    most = 0
    for day, event in [(day, event) for day in range(MOST_SPANNED + 1) for event, _ in laid_out_days(daily)]:
        for name, ahead, behind, days in daily[2]:
            if ahead != event or event not in least[day] or least[day][event] + airs[name] >= 0:
                continue
            if day + days > MOST_SPANNED:
                return None
            most = max(most, day + days)
            there = least[day + days]
            there[behind] = min(there.get(behind, 0), least[day][event] + airs[name])
    return most


def day_spread(daily, ranges, one, other, on):
    """By how much the EVENT one of a day is, at the most, behind the EVENT other of so many days on."""
    daily, ranges = frozen(daily), frozen(ranges)
    need_line(daily, ranges, (one, other))
    most = spans(daily, ranges)
    if most is None:
        raise Unfit()
    # Just dragging rows make one later than told, and days ahead of them can only make other later.
    first, last = max(0, -on), max(most, -on)
    marks = [" " + letter for letter in LETTERS[:last + max(on, 0) + 1]]
    web, lengths = _web_of_days(daily, ranges, marks)
    found = []
    for day in range(first, last + 1):
        found.append(greatest_spread(web, one + marks[day], web, (other + marks[day + on],), lengths))
    return max(found)

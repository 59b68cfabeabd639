"""Times [5]: when EVENTS happen in a RUN, and the WAYS that bring this about."""

from slowship.common import first_place, frozen, highs_of, laid_out, leads_on, lows_of, need_events, need_ranges
from slowship.common import places_back, times_by, ways_to
from slowship.errors import NoNumber, NoRange
from slowship.webs import is_run, is_way


def times(web, run):
    """The pairs (event, time) of all EVENTS."""
    web, run = frozen(web), frozen(run)
    need_ranges(run, (web,))
    found = times_by(laid_out(web), dict(run))
    return tuple([(event, found[event]) for event in web[0]])


def time_of(web, run, event):
    """When the EVENT happens."""
    web, run = frozen(web), frozen(run)
    _need(web, run, event)
    return _time_by(web, dict(run), event)


def _need(web, rows, event):
    need_ranges(rows, (web,))
    need_events(web, (event,))


def _time_by(web, lengths, event):
    return times_by(laid_out(web), lengths)[event]


def least_time(web, ranges, event):
    """The least time of the EVENT in all RUNS."""
    web, ranges = frozen(web), frozen(ranges)
    _need(web, ranges, event)
    return _time_by(web, lows_of(ranges), event)


def greatest_time(web, ranges, event):
    """The greatest time of the EVENT in all RUNS."""
    web, ranges = frozen(web), frozen(ranges)
    _need(web, ranges, event)
    return _time_by(web, highs_of(ranges), event)


def time_run(web, ranges, event, number):
    """A RUN in which the EVENT happens at this number; None if there is none."""
    web, ranges = frozen(web), frozen(ranges)
    if not least_time(web, ranges, event) <= number <= greatest_time(web, ranges, event):
        return None
    rows = laid_out(web)
    lengths = lows_of(ranges)
    for name, _, high in ranges:
        lengths[name] = high
        beyond = times_by(rows, lengths)[event] - number
        if beyond >= 0:
            # What this name brings beyond the number, it brings one by one.
            lengths[name] = high - beyond
            break
    return tuple([(row[0], lengths[row[0]]) for row in ranges])


def is_time_run(web, ranges, event, number, thing):
    """Whether thing is a RUN in which the EVENT happens at this number."""
    web, ranges = frozen(web), frozen(ranges)
    _need(web, ranges, event)
    return is_run(ranges, thing) and time_of(web, thing, event) == number


def _way_counts(web, event, onward):
    """How many WAYS on to the EVENT there are, for each place that leads on to it."""
    counts = {event: 1}
    for place in places_back(web, onward):
        counts[place] = sum([counts[behind] for _, behind in onward[place]])
    return counts


def how_many_ways(web, event):
    """How many WAYS to the EVENT there are."""
    web = frozen(web)
    need_events(web, (event,))
    onward = leads_on(web, event)
    return _way_counts(web, event, onward)[first_place(onward, event)]


def nth_way(web, event, number):
    """The WAY to the EVENT with this number."""
    web = frozen(web)
    need_events(web, (event,))
    onward = leads_on(web, event)
    counts = _way_counts(web, event, onward)
    place = first_place(onward, event)
    if not 0 <= number < counts[place]:
        raise NoNumber(number)
    way = []
    left = number
    while place != event:
        name, place, left = _step_on(onward[place], counts, left)
        way.append(name)
    return tuple(way)


def _step_on(steps, counts, left):
    """The name and the place by which the WAY goes on that has so many ahead of it, and how many there."""
    for name, behind in steps:
        if left < counts[behind]:
            return name, behind, left
        left -= counts[behind]
    raise NoNumber(left)


def number_of_way(web, event, way):
    """The number of this WAY to the EVENT; None if it is none."""
    web, way = frozen(web), frozen(way)
    if not is_way(web, event, way):
        return None
    onward = leads_on(web, event)
    counts = _way_counts(web, event, onward)
    place = first_place(onward, event)
    number = 0
    for taken in way:
        number += sum([counts[behind] for name, behind in onward[place] if name < taken])
        place = dict(onward[place])[taken]
    return number


def way_length(run, way):
    """The lengths of these names in the RUN, added up."""
    lengths = dict(frozen(run))
    for name in way:
        if name not in lengths:
            raise NoRange(name)
    return sum([lengths[name] for name in way])


def longest_ways(web, run, event):
    """The WAYS to the EVENT that are as long as its time."""
    web, run = frozen(web), frozen(run)
    _need(web, run, event)
    lengths = dict(run)
    found = times_by(laid_out(web), lengths)
    # A WAY is as long as the time exactly if it is so at each EVENT on it.
    deciding = [arc for arc in web[1] if found[arc[1]] + lengths[arc[0]] == found[arc[2]]]
    return ways_to((web[0], tuple(deciding)), event)


def slow_run(ranges, way):
    """The RUN in which the names of way are at high, all other names at low."""
    ranges, way = frozen(ranges), frozen(way)
    highs = highs_of(ranges)
    lengths = lows_of(ranges)
    for name in way:
        if name not in highs:
            raise NoRange(name)
        lengths[name] = highs[name]
    return tuple([(row[0], lengths[row[0]]) for row in ranges])

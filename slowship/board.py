"""Boards [23]: a WEB that is made deed by deed."""

from slowship.errors import NoArc, NothingDone, Unfit
from slowship.order import surely_ahead
from slowship.spreads import greatest_spread, least_spread
from slowship.times import greatest_time, least_time
from slowship.webs import arcs_from, arcs_into, with_arc, with_event, with_range, without_arc, without_event


class Board:
    """A WEB with RANGES of just the names of its ARCS, and what it was behind each deed."""

    def __init__(self):
        self._web = ((), ())
        self._ranges = ()
        self._past = []

    def __len__(self):
        return len(self._web[1])

    def __eq__(self, other):
        return isinstance(other, Board) and self._web == other._web and self._ranges == other._ranges

    def web(self):
        """The WEB."""
        return self._web

    def ranges(self):
        """The RANGES."""
        return self._ranges

    def range_of(self, name):
        """The low and the high of this ARC."""
        for other, low, high in self._ranges:
            if other == name:
                return low, high
        raise NoArc(name)

    def between(self, event):
        """The least and the greatest time of the EVENT."""
        least = least_time(self._web, self._ranges, event)
        return least, greatest_time(self._web, self._ranges, event)

    def spread(self, event, events):
        """The least and the greatest spread of the EVENT behind events."""
        least = least_spread(self._web, event, self._web, events, self._ranges)
        return least, greatest_spread(self._web, event, self._web, events, self._ranges)

    def sure(self, one, other):
        """Whether one is surely ahead of other."""
        return surely_ahead(self._web, self._ranges, one, other)

    def _do(self, web, ranges):
        """Keep what was, and take these in its place: a deed."""
        self._past.append((self._web, self._ranges))
        self._web = web
        self._ranges = ranges

    def come(self, event):
        """An EVENT more; how many there are then."""
        self._do(with_event(self._web, event), self._ranges)
        return len(self._web[0])

    def wait(self, name, ahead, behind, low, high):
        """An ARC more; whether ahead was surely ahead of behind without it."""
        web = with_arc(self._web, name, ahead, behind)
        sure = self.sure(ahead, behind)
        self._do(web, with_range(self._ranges, name, low, high))
        return sure

    def slack(self, name, low, high):
        """Another RANGE for this ARC; the low and the high that it had."""
        had = self.range_of(name)
        self._do(self._web, with_range(self._ranges, name, low, high))
        return had

    def told(self, name, length):
        """Just this length for this ARC; the low and the high that it had."""
        low, high = self.range_of(name)
        if not low <= length <= high:
            raise Unfit()
        return self.slack(name, length, length)

    def drop(self, name):
        """This ARC goes; the EVENTS ahead and behind of it."""
        web = without_arc(self._web, name)
        ends = [(ahead, behind) for other, ahead, behind in self._web[1] if other == name]
        self._do(web, self._ranges_without([name]))
        return ends[0]

    def _ranges_without(self, names):
        """The RANGES of all other ARCS."""
        return tuple([row for row in self._ranges if row[0] not in names])

    def go(self, event):
        """The EVENT goes with all ARCS at it; the set of their names."""
        names = tuple(sorted([*arcs_into(self._web, event), *arcs_from(self._web, event)]))
        self._do(without_event(self._web, event), self._ranges_without(names))
        return names

    def undo(self):
        """Take back the last deed that was not taken back."""
        if not self._past:
            raise NothingDone()
        self._web, self._ranges = self._past.pop()

    def deeds(self):
        """How many deeds can be taken back."""
        return len(self._past)

    def twin(self):
        """A Board like this one, with the same deeds to take back."""
        board = Board()
        board._web = self._web
        board._ranges = self._ranges
        board._past = list(self._past)
        return board

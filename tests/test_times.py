"""Point 5: times."""

import unittest

from slowship.errors import NoEvent, NoNumber, NoRange
from slowship.times import (
    greatest_time, how_many_ways, is_time_run, least_time, longest_ways, nth_way, number_of_way, slow_run, time_of,
    time_run, times, way_length,
)
from slowship.webs import is_run, with_arc, with_event
from tests.support import all_runs, judged, length_in, refused, slow, small_cases, time_in, told, ways_in
from tests.test_webs import EMPTY, RANGES, TWO, WEB, chain, name_of

RUN = (("c", 3), ("f", 5), ("g", 4), ("h", 3), ("k", 4))
GREAT = 10 ** 60
WIDE = (("x", 0, 2 ** 70), ("y", 2 ** 66, 2 ** 68))
# b, then d, then e are those that have no range, and an EVENT is missing, too.
BARE = (("p", "q"), (("b", "q", "p"), ("c", "q", "p"), ("d", "q", "p"), ("e", "q", "p")))


def ladder(many):
    """A WEB of 2 ** many WAYS to its last EVENT."""
    events = [name_of(number) for number in range(many + 1)]
    arcs = [("x" + ahead, ahead, behind) for ahead, behind in zip(events, events[1:])]
    more = [("y" + ahead, ahead, behind) for ahead, behind in zip(events, events[1:])]
    return tuple(events), tuple(arcs + more)


class Times(unittest.TestCase):
    def test_times(self):
        self.assertEqual(told(self, times, WEB, RUN), (("cargo", 3), ("crane", 9), ("dock", 4), ("pilot", 0), ("sail", 12)))
        self.assertEqual(told(self, times, EMPTY, ()), ())
        self.assertEqual(told(self, times, EMPTY, (("x", 3),)), ())
        self.assertEqual(told(self, times, (("a", "b"), ()), (("x", 3),)), (("a", 0), ("b", 0)))
        self.assertEqual(told(self, times, TWO, (("a", 1), ("x", GREAT), ("y", 7))), (("p", GREAT), ("q", 0)))
        self.assertEqual(told(self, time_of, WEB, RUN, "sail"), 12)
        self.assertEqual(told(self, time_of, WEB, (*RUN[:4], ("k", 13)), "sail"), 13)
        self.assertEqual(told(self, time_of, WEB, RUN, "pilot"), 0)

    def test_times_by_trying(self):
        for web, ranges in small_cases(11, 30):
            for run in all_runs(ranges)[::17]:
                wanted = tuple([(event, time_in(web, run, event)) for event in web[0]])
                self.assertEqual(times(web, run), wanted)
                for event, time in wanted:
                    self.assertEqual(time_of(web, run, event), time)
                    self.assertEqual(max(length_in(run, way) for way in ways_in(web, event)), time)

    def test_least_and_greatest(self):
        self.assertEqual(told(self, least_time, WEB, RANGES, "sail"), 4)
        self.assertEqual(told(self, greatest_time, WEB, RANGES, "sail"), 12)
        self.assertEqual(told(self, greatest_time, WEB, RANGES, "pilot"), 0)
        self.assertEqual(told(self, least_time, TWO, WIDE, "p"), 2 ** 66)
        self.assertEqual(told(self, greatest_time, TWO, WIDE, "p"), 2 ** 70)
        for web, ranges in small_cases(12, 12):
            for event in web[0]:
                found = [time_in(web, run, event) for run in all_runs(ranges)]
                self.assertEqual(told(self, least_time, web, ranges, event), min(found))
                self.assertEqual(told(self, greatest_time, web, ranges, event), max(found))

    def test_errors(self):
        lacking = (("a", 1), ("c", 1))
        self.check_errors(lacking, [(times, ()), (time_of, ("p",)), (longest_ways, ("p",))])
        lacking = (("a", 1, 1), ("c", 1, 2))
        self.check_errors(lacking, [
            (least_time, ("p",)), (greatest_time, ("p",)), (time_run, ("p", 3)), (is_time_run, ("p", 3, ())),
            (is_time_run, ("p", 3, ["odd"])), (is_time_run, ("p", 3, None)),
        ])

    def check_errors(self, lacking, rows):
        full = tuple([(name, *lacking[0][1:]) for name in "abcde"])
        for function, args in rows:
            refused(self, NoRange, {"name": "b"}, function, BARE, lacking, *args)
            refused(self, NoRange, {"name": "d"}, function, BARE, full[:3], *args)
            refused(self, NoRange, {"name": "b"}, function, BARE, (), *args)
            if args:
                refused(self, NoRange, {"name": "b"}, function, BARE, lacking, "tide", *args[1:])
                refused(self, NoEvent, {"event": "tide"}, function, BARE, full, "tide", *args[1:])
                refused(self, NoEvent, {"event": "p"}, function, EMPTY, (), "p", *args[1:])


class TimeRuns(unittest.TestCase):
    def check(self, web, ranges, event, number, there):
        run = told(self, time_run, web, ranges, event, number)
        if not there:
            self.assertIsNone(run)
            return
        self.assertTrue(is_run(ranges, run))
        self.assertEqual(time_in(web, run, event), number)
        self.assertIs(told(self, is_time_run, web, ranges, event, number, run), True)
        self.assertIs(is_time_run(web, ranges, event, number + 1, run), False)

    def test_time_run(self):
        for number in range(-2, 16):
            self.check(WEB, RANGES, "sail", number, 4 <= number <= 12)
            self.check(WEB, RANGES, "pilot", number, number == 0)
        for number in (2 ** 66 - 1, 2 ** 66, 2 ** 66 + 1, 2 ** 69 + 12345, 2 ** 70, 2 ** 70 + 1, -GREAT, GREAT):
            self.check(TWO, WIDE, "p", number, 2 ** 66 <= number <= 2 ** 70)
        self.check((("a",), ()), (), "a", 0, True)
        self.check((("a",), ()), (("x", 3, 4),), "a", 0, True)
        self.check((("a",), ()), (), "a", 1, False)

    def test_time_run_by_trying(self):
        for web, ranges in small_cases(13, 25):
            for event in web[0]:
                found = {time_in(web, run, event) for run in all_runs(ranges)}
                for number in range(-1, max(found) + 2):
                    self.check(web, ranges, event, number, number in found)

    def test_is_time_run(self):
        good = [(("c", 3), ("f", 2), ("g", 1), ("h", 0), ("k", 7)), (("c", 6), ("f", 3), ("g", 1), ("h", 3), ("k", 7)),
                (("c", 3), ("f", 3), ("g", 4), ("h", 0), ("k", 4))]
        judged(self, is_time_run, (WEB, RANGES, "sail", 7), good, [
            RUN, (("c", 2), ("f", 2), ("g", 1), ("h", 0), ("k", 7)), good[0][1:], (), (*good[0], ("z", 0)),
            (("c", 3), ("f", 2), ("g", 1), ("h", 0), ("k", 6)), (("c", 3), ("f", 6), ("g", 1), ("h", 0), ("k", 4)),
        ])
        judged(self, is_time_run, (TWO, (("x", 0, 1), ("y", 0, 1)), "p", 1), [(("x", 0), ("y", 1)), (("x", 1), ("y", 1))])
        judged(self, is_time_run, ((("a",), ()), (), "a", 0), [()])


class Ways(unittest.TestCase):
    def test_ways(self):
        self.assertEqual(told(self, how_many_ways, WEB, "sail"), 2)
        self.assertEqual(told(self, how_many_ways, WEB, "pilot"), 1)
        self.assertEqual(told(self, nth_way, WEB, "sail", 0), ("g", "f", "h"))
        self.assertEqual(told(self, nth_way, WEB, "sail", 1), ("k",))
        self.assertEqual(told(self, nth_way, WEB, "pilot", 0), ())
        self.assertEqual(told(self, number_of_way, WEB, "sail", ("k",)), 1)
        self.assertEqual(told(self, number_of_way, WEB, "pilot", ()), 0)
        for way in (("h",), (), ("z",), ("f", "h"), ("g", "f"), ("k", "k"), ("c",)):
            self.assertIsNone(told(self, number_of_way, WEB, "sail", way))
        self.assertIsNone(told(self, number_of_way, WEB, "pilot", ("g",)))

    def test_errors(self):
        for number in (2, 3, -1, -2, GREAT, -GREAT):
            refused(self, NoNumber, {"number": number}, nth_way, WEB, "sail", number)
        for number in (1, -1):
            refused(self, NoNumber, {"number": number}, nth_way, WEB, "pilot", number)
        for number in (0, -1, GREAT):
            refused(self, NoEvent, {"event": "tide"}, nth_way, WEB, "tide", number)
        refused(self, NoEvent, {"event": "tide"}, how_many_ways, WEB, "tide")
        refused(self, NoEvent, {"event": "tide"}, number_of_way, WEB, "tide", ("k",))
        refused(self, NoEvent, {"event": "tide"}, number_of_way, WEB, "tide", ())

    def test_ways_by_trying(self):
        for web, _ in small_cases(14, 60, "opqrstu"):
            for event in web[0]:
                ways = ways_in(web, event)
                self.assertEqual(told(self, how_many_ways, web, event), len(ways))
                self.assertEqual([nth_way(web, event, number) for number in range(len(ways))], ways)
                self.assertEqual([number_of_way(web, event, way) for way in ways], list(range(len(ways))))
                for other in web[0]:
                    for way in ways_in(web, other):
                        self.assertEqual(number_of_way(web, event, way) is None, way not in ways)

    def test_many_ways(self):
        web = ladder(90)
        last = web[0][-1]
        self.assertEqual(told(self, how_many_ways, web, last), 2 ** 90)
        for number in (0, 1, 2 ** 64 + 5, 2 ** 89, 2 ** 90 - 1):
            way = told(self, nth_way, web, last, number)
            self.assertEqual(told(self, number_of_way, web, last, way), number)
            self.assertEqual([name[0] == "y" for name in way], [sign == "1" for sign in f"{number:090b}"])
        refused(self, NoNumber, {"number": 2 ** 90}, nth_way, web, last, 2 ** 90)

    def test_long_ways(self):
        web = chain(3000)
        way = tuple([arc[0] for arc in web[1]])
        run = tuple([(name, 2) for name in way])
        self.assertEqual(how_many_ways(web, web[0][-1]), 1)
        self.assertEqual(nth_way(web, web[0][-1], 0), way)
        self.assertEqual(number_of_way(web, web[0][-1], way), 0)
        self.assertEqual(longest_ways(web, run, web[0][-1]), [way])
        self.assertEqual(time_of(web, run, web[0][-1]), 6000)
        self.assertEqual(way_length(run, way), 6000)

    def test_way_length(self):
        self.assertEqual(told(self, way_length, RUN, ("g", "f")), 9)
        self.assertEqual(told(self, way_length, RUN, ()), 0)
        self.assertEqual(told(self, way_length, (), ()), 0)
        self.assertEqual(told(self, way_length, RUN, ("k", "c", "k")), 11)
        self.assertEqual(told(self, way_length, (("x", GREAT), ("y", 1)), ("y", "x")), GREAT + 1)
        refused(self, NoRange, {"name": "z"}, way_length, RUN, ("g", "z", "a"))
        refused(self, NoRange, {"name": "a"}, way_length, (), ("a",))

    def test_longest_ways(self):
        even = (("c", 3), ("f", 3), ("g", 2), ("h", 1), ("k", 6))
        self.assertEqual(told(self, longest_ways, WEB, RUN, "sail"), [("g", "f", "h")])
        self.assertEqual(told(self, longest_ways, WEB, even, "sail"), [("g", "f", "h"), ("k",)])
        self.assertEqual(told(self, longest_ways, WEB, (*even[:4], ("k", 7), ("z", 99)), "sail"), [("k",)])
        self.assertEqual(told(self, longest_ways, WEB, RUN, "pilot"), [()])
        self.assertEqual(told(self, longest_ways, TWO, (("x", 0), ("y", 0)), "p"), [("x",), ("y",)])

    def test_longest_ways_by_trying(self):
        for web, ranges in small_cases(15, 40, "opqrstu"):
            for run in all_runs(ranges)[::97]:
                for event in web[0]:
                    ways = ways_in(web, event)
                    time = max(length_in(run, way) for way in ways)
                    self.assertEqual(told(self, longest_ways, web, run, event),
                                     [way for way in ways if length_in(run, way) == time])

    def test_slow_run(self):
        self.assertEqual(told(self, slow_run, RANGES, ("g", "f", "h")), RUN)
        self.assertEqual(told(self, slow_run, RANGES, ()), (("c", 3), ("f", 2), ("g", 1), ("h", 0), ("k", 4)))
        self.assertEqual(told(self, slow_run, (), ()), ())
        self.assertEqual(told(self, slow_run, WIDE, ("x", "y")), (("x", 2 ** 70), ("y", 2 ** 68)))
        self.assertEqual(told(self, slow_run, RANGES, ("k", "c")), slow(RANGES, ("c", "k")))
        refused(self, NoRange, {"name": "z"}, slow_run, RANGES, ("g", "z", "a"))
        refused(self, NoRange, {"name": "a"}, slow_run, (), ("a",))

    def test_beyond_the_bounds(self):
        web = EMPTY
        for number in range(40):
            web = with_event(web, name_of(number))
        for number in range(39):
            web = with_arc(web, "x" + name_of(number), name_of(number), name_of(number + 1))
        ranges = tuple([(arc[0], 1, 2) for arc in web[1]])
        self.assertEqual(least_time(web, ranges, name_of(39)), 39)
        self.assertEqual(greatest_time(web, ranges, name_of(39)), 78)
        self.assertEqual(time_of(web, time_run(web, ranges, name_of(39), 55), name_of(39)), 55)


if __name__ == "__main__":
    unittest.main()

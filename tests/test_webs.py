"""Point 4: webs."""

import unittest

from slowship.errors import NoArc, NoEvent, Ring, Twice
from slowship.webs import (
    arcs_from, arcs_into, comes_from, in_turn, is_ranges, is_run, is_way, is_web, leads_to, renamed_arcs, shared_names,
    with_arc, with_event, with_range, without_arc, without_event,
)
from tests.support import judged, refused, small_cases, told, ways_in

WEB = (
    ("cargo", "crane", "dock", "pilot", "sail"),
    (("c", "pilot", "cargo"), ("f", "dock", "crane"), ("g", "pilot", "dock"), ("h", "crane", "sail"),
     ("k", "pilot", "sail")),
)
RANGES = (("c", 3, 6), ("f", 2, 5), ("g", 1, 4), ("h", 0, 3), ("k", 4, 9))
TWO = (("p", "q"), (("x", "q", "p"), ("y", "q", "p")))
EMPTY = ((), ())
GREAT = 10 ** 60


def name_of(number):
    """A NAME of four letters, ascending with the number."""
    letters = "abcdefghijklmnopqrstuvwxyz"
    signs = []
    for _ in range(4):
        number, sign = divmod(number, 26)
        signs.append(letters[sign])
    return "".join(reversed(signs))


def chain(many):
    """A WEB of so many ARCS one behind another."""
    names = [name_of(number) for number in range(many + 1)]
    return tuple(names), tuple(zip(names, names, names[1:]))


class Kinds(unittest.TestCase):
    def test_is_web(self):
        judged(self, is_web, (), [WEB, TWO, EMPTY, (("a",), ()), (("abcdefgh",), ())], [
            (("b", "a"), ()), (("a", "a"), ()), (("a", "B"), ()), (("a", "b c"), ()), (("",), ()), (("abcdefghi",), ()),
            (("a", "b"), (("y", "a", "b"), ("x", "a", "b"))), (("a", "b"), (("x", "a", "b"), ("x", "a", "b"))),
            (("a", "b"), (("x", "a", "c"),)), (("a", "b"), (("x", "c", "b"),)), (("a",), (("x", "a", "a"),)),
            (("a", "b"), (("x", "a", "b"), ("y", "b", "a"))), (("a", "b"), (("x", "a", "b", "b"),)), ((), (("x", "a", "b"),)),
            (("a", "b", "c", "d"), (("w", "d", "a"), ("x", "a", "b"), ("y", "b", "c"), ("z", "c", "a"))),
            (("a", "b"), (("X", "a", "b"),)), (("a", "b"), (("x1", "a", "b"),)), (("a", "b"), ("xab",)), (("a", "b"),),
            (("a", "b"), (), ()), (("a", "\u00e4"), ()), (("a", "b"), (("x", "a"),)), ("ab", ()), (("a", "b"), "x"),
            (("a", "b"), (("x", "a", "b"), ("x", "b", "a"))), (("a{",), ()), (("a`",), ()),
        ])

    def test_great_webs(self):
        events, arcs = chain(5000)
        self.assertIs(is_web((events, arcs)), True)
        self.assertIs(is_web((events, (*arcs, ("zzzz", events[-1], events[0])))), False)
        self.assertIs(is_way((events, arcs), events[-1], tuple([arc[0] for arc in arcs])), True)
        self.assertEqual(in_turn((events, arcs)), events)
        self.assertEqual(leads_to((events, arcs), events[0]), events[1:])
        self.assertEqual(comes_from((events, arcs), events[-1]), events[:-1])

    def test_is_ranges(self):
        judged(self, is_ranges, (), [RANGES, (), (("a", 0, 0),), (("a", 2 ** 64, GREAT), ("b", 1, 1))], [
            (("a", 1, 0),), (("a", -1, 0),), (("b", 0, 1), ("a", 0, 1)), (("a", 0, 1), ("a", 0, 2)), (("A", 0, 1),),
            (("a", 0),), (("a", 0, 1, 2),), (("a", "0", 1),), (("a", False, 1),), (("a", 0, True),), ("abc",),
        ])
        self.assertIs(is_ranges(tuple([(name_of(number), 0, number) for number in range(5000)])), True)

    def test_is_run(self):
        run = (("c", 3), ("f", 5), ("g", 1), ("h", 0), ("k", 9))
        judged(self, is_run, (RANGES,), [run, tuple([(name, high) for name, _, high in RANGES])], [
            run[:4], run[1:], (*run, ("z", 0)), (("c", 2), *run[1:]), (("c", 7), *run[1:]), (("d", 3), *run[1:]),
            (run[1], run[0], *run[2:]), (), (("c", 3, 3), *run[1:]), (("c", "3"), *run[1:]), (run[0], run[0], *run[2:]),
        ])
        judged(self, is_run, ((),), [()])
        judged(self, is_run, ((("p", 0, 1), ("q", GREAT, GREAT)),), [(("p", 0), ("q", GREAT)), (("p", 1), ("q", GREAT))], [
            (("p", True), ("q", GREAT)), (("p", False), ("q", GREAT)), (("p", 0), ("q", GREAT - 1)),
        ])

    def test_is_way(self):
        judged(self, is_way, (WEB, "sail"), [("g", "f", "h"), ("k",)], [
            (), ("h",), ("f", "h"), ("g", "f"), ("g", "f", "h", "h"), ("g", "h"), ("g", "k"), ("c",), ("z",), ("f", "g", "h"),
            ("g", "f", "h", "k"), ("k", "k"), "k", ("g", "f", 3), "gfh",
        ])
        judged(self, is_way, (WEB, "pilot"), [()], [("g",), ("k",)])
        judged(self, is_way, (TWO, "p"), [("x",), ("y",)], [("x", "y"), ()])
        for thing in ((), ("k",), None, ["k"], 3):
            refused(self, NoEvent, {"event": "tide"}, is_way, WEB, "tide", thing)

    def test_is_way_tells_all_ways(self):
        for web, _ in small_cases(1, 30):
            names = [arc[0] for arc in web[1]]
            tries = [()] + [(one,) for one in names] + [(one, other) for one in names for other in names]
            for event in web[0]:
                ways = ways_in(web, event)
                for way in [*ways, *tries]:
                    self.assertIs(is_way(web, event, way), way in ways)


class Asking(unittest.TestCase):
    def test_arcs(self):
        self.assertEqual(told(self, arcs_into, WEB, "sail"), ("h", "k"))
        self.assertEqual(told(self, arcs_into, WEB, "pilot"), ())
        self.assertEqual(told(self, arcs_from, WEB, "pilot"), ("c", "g", "k"))
        self.assertEqual(told(self, arcs_from, WEB, "sail"), ())
        self.assertEqual(told(self, arcs_into, TWO, "p"), ("x", "y"))

    def test_leads(self):
        self.assertEqual(told(self, leads_to, WEB, "pilot"), ("cargo", "crane", "dock", "sail"))
        self.assertEqual(told(self, leads_to, WEB, "dock"), ("crane", "sail"))
        self.assertEqual(told(self, leads_to, WEB, "sail"), ())
        self.assertEqual(told(self, comes_from, WEB, "sail"), ("crane", "dock", "pilot"))
        self.assertEqual(told(self, comes_from, WEB, "cargo"), ("pilot",))
        self.assertEqual(told(self, comes_from, WEB, "pilot"), ())

    def test_leads_by_trying(self):
        for web, _ in small_cases(2, 20):
            for event in web[0]:
                self.assertEqual(told(self, arcs_into, web, event), tuple([arc[0] for arc in web[1] if arc[2] == event]))
                self.assertEqual(told(self, arcs_from, web, event), tuple([arc[0] for arc in web[1] if arc[1] == event]))
                before = {arc[1] for way in ways_in(web, event) for arc in web[1] if arc[0] in way}
                self.assertEqual(told(self, comes_from, web, event), tuple(sorted(before)))
                after = [other for other in web[0] if event in comes_from(web, other)]
                self.assertEqual(told(self, leads_to, web, event), tuple(after))

    def test_in_turn(self):
        self.assertEqual(told(self, in_turn, WEB), ("pilot", "cargo", "dock", "crane", "sail"))
        self.assertEqual(told(self, in_turn, EMPTY), ())
        self.assertEqual(told(self, in_turn, (("a", "b", "c"), ())), ("a", "b", "c"))
        self.assertEqual(told(self, in_turn, (("a", "b", "c"), (("x", "c", "a"),))), ("b", "c", "a"))
        # What becomes free can come ahead of what could be next before.
        self.assertEqual(told(self, in_turn, (("a", "b", "c", "d"), (("x", "b", "a"),))), ("b", "a", "c", "d"))

    def test_in_turn_by_trying(self):
        for web, _ in small_cases(3, 30):
            turn = []
            while len(turn) < len(web[0]):
                ready = [event for event in web[0] if event not in turn and set(comes_from(web, event)) <= set(turn)]
                turn.append(min(ready))
            self.assertEqual(told(self, in_turn, web), tuple(turn))

    def test_no_event(self):
        for function in (arcs_into, arcs_from, leads_to, comes_from, without_event):
            refused(self, NoEvent, {"event": "tide"}, function, WEB, "tide")
            refused(self, NoEvent, {"event": "k"}, function, WEB, "k")
            refused(self, NoEvent, {"event": "a"}, function, EMPTY, "a")


class Changing(unittest.TestCase):
    def test_with_event(self):
        self.assertEqual(told(self, with_event, WEB, "day"), (("cargo", "crane", "day", "dock", "pilot", "sail"), WEB[1]))
        self.assertEqual(told(self, with_event, EMPTY, "a"), (("a",), ()))
        self.assertEqual(told(self, with_event, WEB, "k")[0], ("cargo", "crane", "dock", "k", "pilot", "sail"))
        refused(self, Twice, {"name": "dock"}, with_event, WEB, "dock")

    def test_without_event(self):
        self.assertEqual(told(self, without_event, WEB, "dock"),
                         (("cargo", "crane", "pilot", "sail"), (WEB[1][0], WEB[1][3], WEB[1][4])))
        self.assertEqual(told(self, without_event, TWO, "p"), (("q",), ()))
        self.assertEqual(told(self, without_event, TWO, "q"), (("p",), ()))
        same = (("a", "b", "c"), (("b", "a", "c"),))
        self.assertEqual(told(self, without_event, same, "b"), (("a", "c"), (("b", "a", "c"),)))

    def test_with_arc(self):
        self.assertEqual(told(self, with_arc, WEB, "d", "cargo", "sail"),
                         (WEB[0], (WEB[1][0], ("d", "cargo", "sail"), *WEB[1][1:])))
        self.assertEqual(told(self, with_arc, WEB, "z", "pilot", "sail")[1][-1], ("z", "pilot", "sail"))
        self.assertEqual(told(self, with_arc, WEB, "a", "cargo", "dock")[1][0], ("a", "cargo", "dock"))

    def test_with_arc_refused(self):
        refused(self, Ring, {}, with_arc, WEB, "b", "sail", "dock")
        refused(self, Ring, {}, with_arc, WEB, "b", "sail", "crane")
        refused(self, Ring, {}, with_arc, WEB, "b", "dock", "dock")
        refused(self, NoEvent, {"event": "tide"}, with_arc, WEB, "b", "tide", "dock")
        refused(self, NoEvent, {"event": "tide"}, with_arc, WEB, "b", "dock", "tide")
        refused(self, NoEvent, {"event": "wind"}, with_arc, WEB, "b", "wind", "tide")
        refused(self, NoEvent, {"event": "tide"}, with_arc, WEB, "b", "tide", "tide")
        refused(self, Twice, {"name": "c"}, with_arc, WEB, "c", "tide", "wind")
        refused(self, Twice, {"name": "c"}, with_arc, WEB, "c", "sail", "dock")

    def test_ring_by_trying(self):
        for web, _ in small_cases(4, 20, "pqrst"):
            for ahead in web[0]:
                for behind in web[0]:
                    if ahead == behind or ahead in leads_to(web, behind):
                        refused(self, Ring, {}, with_arc, web, "new", ahead, behind)
                    else:
                        self.assertTrue(is_web(told(self, with_arc, web, "new", ahead, behind)))

    def test_without_arc(self):
        self.assertEqual(told(self, without_arc, WEB, "k"), (WEB[0], WEB[1][:-1]))
        self.assertEqual(told(self, without_arc, TWO, "x"), (TWO[0], (("y", "q", "p"),)))
        refused(self, NoArc, {"name": "z"}, without_arc, WEB, "z")
        refused(self, NoArc, {"name": "dock"}, without_arc, WEB, "dock")
        refused(self, NoArc, {"name": "a"}, without_arc, EMPTY, "a")

    def test_renamed_arcs(self):
        self.assertEqual(told(self, renamed_arcs, WEB, ()), WEB)
        self.assertEqual(told(self, renamed_arcs, TWO, (("y", "x"), ("x", "y"))), (("p", "q"), (("x", "q", "p"), ("y", "q", "p"))))
        self.assertEqual(told(self, renamed_arcs, WEB, (("c", "f"), ("f", "c"))),
                         (WEB[0], (("c", "dock", "crane"), ("f", "pilot", "cargo"), *WEB[1][2:])))
        self.assertEqual(told(self, renamed_arcs, WEB, (("f", "g"), ("g", "h"), ("h", "z")))[1],
                         (("c", "pilot", "cargo"), ("g", "dock", "crane"), ("h", "pilot", "dock"), ("k", "pilot", "sail"),
                          ("z", "crane", "sail")))
        self.assertEqual(told(self, renamed_arcs, WEB, (("k", "k"),)), WEB)
        refused(self, NoArc, {"name": "y"}, renamed_arcs, WEB, (("c", "a"), ("y", "b"), ("x", "d")))
        refused(self, NoArc, {"name": "x"}, renamed_arcs, EMPTY, (("x", "y"),))

    def test_shared_names(self):
        self.assertEqual(told(self, shared_names, WEB, without_arc(WEB, "k")), ("c", "f", "g", "h"))
        self.assertEqual(told(self, shared_names, (("a", "b"), (("b", "a", "b"), ("k", "a", "b"), ("z", "b", "a"))), WEB), ("k",))
        self.assertEqual(told(self, shared_names, WEB, EMPTY), ())
        self.assertEqual(told(self, shared_names, EMPTY, WEB), ())
        self.assertEqual(told(self, shared_names, WEB, WEB), ("c", "f", "g", "h", "k"))

    def test_with_range(self):
        self.assertEqual(told(self, with_range, RANGES, "f", 0, 1), (RANGES[0], ("f", 0, 1), *RANGES[2:]))
        self.assertEqual(told(self, with_range, RANGES, "d", 7, GREAT), (RANGES[0], ("d", 7, GREAT), *RANGES[1:]))
        self.assertEqual(told(self, with_range, RANGES, "z", 0, 0)[-1], ("z", 0, 0))
        self.assertEqual(told(self, with_range, (), "z", 0, 0), (("z", 0, 0),))
        self.assertEqual(told(self, with_range, RANGES, "c", 2, 2)[0], ("c", 2, 2))

    def test_beyond_the_bounds(self):
        web, ranges = EMPTY, ()
        for number in range(60):
            web = with_event(web, name_of(number))
            ranges = with_range(ranges, name_of(number), number, number + 10 ** 45)
        for number in range(59):
            web = with_arc(web, name_of(number), name_of(number + 1), name_of(number))
        self.assertTrue(is_web(web) and is_ranges(ranges))
        refused(self, Ring, {}, with_arc, web, "z", name_of(0), name_of(59))
        self.assertEqual(len(told(self, without_event, web, name_of(5))[1]), 57)
        self.assertEqual(told(self, in_turn, web)[0], name_of(59))


if __name__ == "__main__":
    unittest.main()

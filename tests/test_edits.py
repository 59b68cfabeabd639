"""Point 9: edits."""

import random
import unittest

from slowship.edits import edited, edits_back, edits_to, felt_events, first_refused, healed, is_edit, is_felt, least_felt
from slowship.errors import NoArc, NoEvent, NoRange, Ring, Twice, Unfit
from slowship.webs import is_web
from tests.support import all_runs, judged, refused, small_pairs, some_ranges, some_web, subsets, time_in, told
from tests.test_same import BARE, PLAN, RANGES, SLOW
from tests.test_webs import EMPTY

HOURS = (("x", 2, 2), ("y", 1, 1), ("z", 1, 1))
BOTH = (("p", "v", "w"), (("x", "p", "v"), ("y", "p", "w"), ("z", "w", "v")))
LONE = (("p", "v", "w"), (("x", "p", "v"), ("y", "p", "w")))
OUT_X, OUT_Z, PUT_Z = ("out", "x"), ("out", "z"), ("put", "z", "w", "v")


def some_edit(chance, events, names):
    """An EDIT that maybe can be done."""
    word = chance.choice(("put", "out", "move", "call"))
    name, new = chance.choice(names), chance.choice(names)
    if word == "out":
        return word, name
    if word == "call":
        return word, name, new
    return word, name, chance.choice(events), chance.choice(events)


def has_ring(arcs):
    """Whether ARCS lead from an EVENT back to it."""
    ends = list(arcs.values())
    while ends:
        later = [pair for pair in ends if pair[0] in [behind for _, behind in ends]]
        if len(later) == len(ends):
            return True
        ends = later
    return False


def plainly_edited(web, edits):
    """The WEB behind the EDITS, or the error by which the first one is refused, with its place."""
    arcs = {name: ends for name, *ends in web[1]}
    for place, (word, name, *rest) in enumerate(edits):
        refusal = plain_refusal(web[0], arcs, word, name, rest)
        if refusal is not None:
            return None, refusal, place
        if word in ("out", "call"):
            ends = arcs.pop(name)
        if word == "call":
            arcs[rest[0]] = ends
        if word in ("put", "move"):
            arcs[name] = rest
    return (web[0], tuple(sorted((name, *ends) for name, ends in arcs.items()))), None, None


def plain_refusal(events, arcs, word, name, rest):
    if word == "put" and name in arcs:
        return Twice, {"name": name}
    if word != "put" and name not in arcs:
        return NoArc, {"name": name}
    if word == "call" and rest[0] in arcs:
        return Twice, {"name": rest[0]}
    if word in ("put", "move"):
        for event in rest:
            if event not in events:
                return NoEvent, {"event": event}
        if has_ring({**arcs, name: rest}):
            return Ring, {}
    return None


def plainly_felt(web, ranges, edits, some):
    """Whether the EDITS are felt at some; None if they can not be done."""
    changed = plainly_edited(web, edits)[0]
    if changed is None:
        return None
    return any(time_in(web, run, event) != time_in(changed, run, event) for run in all_runs(ranges) for event in some)


def felt_cases(seed, many):
    """A WEB, RANGES, EDITS that can be done, and some EVENTS."""
    chance = random.Random(seed)
    while many:
        web = some_web(chance, "pqrs", ("a", "b", "c", "d"))
        edits = tuple([some_edit(chance, web[0], "pqrst") for _ in range(chance.randint(0, 3))])
        if chance.random() < 0.4:
            edits = (*edits[:2], ("out", web[1][0][0]), ("put", *web[1][0]))
        if plainly_edited(web, edits)[0] is not None:
            many -= 1
            yield web, some_ranges(chance, "pqrst", 1), edits, tuple(sorted(chance.sample(web[0], chance.randint(0, 3))))


class Kinds(unittest.TestCase):
    def test_is_edit(self):
        good = [("put", "a", "b", "c"), ("out", "tide"), ("move", "a", "b", "b"), ("call", "a", "a"), ("put", "put", "out", "call"),
                ("out", "out")]
        judged(self, is_edit, (), good, [
            (), ("put",), ("out",), ("put", "a"), ("put", "a", "b"), ("put", "a", "b", "c", "d"), ("out", "a", "b"), ("move", "a"),
            ("move", "a", "b"), ("call", "a"), ("call", "a", "b", "c"), ("go", "a"), ("OUT", "a"), ("out", "A"), ("out", ""),
            ("out", "abcdefghi"), ("call", "a", "b1"), "out", ("out", 1), (("out", "a"),), ("swap", "a", "b"), ("in", "a", "b", "c"),
        ])


class Edited(unittest.TestCase):
    def test_told(self):
        self.assertEqual(told(self, edited, PLAN, ()), PLAN)
        self.assertEqual(told(self, edited, EMPTY, ()), EMPTY)
        self.assertEqual(told(self, edited, PLAN, (("out", "tide"),)), BARE)
        self.assertEqual(told(self, edited, BARE, (("put", "tide", "sea", "go"),)), PLAN)
        self.assertEqual(told(self, edited, PLAN, (("move", "tide", "dock", "go"),)), SLOW)
        self.assertEqual(told(self, edited, PLAN, (("move", "tide", "sea", "go"),)), PLAN)
        self.assertEqual(told(self, edited, PLAN, (("call", "tide", "air"),))[1][0], ("air", "sea", "go"))
        self.assertEqual(told(self, edited, PLAN, (("out", "crane"), ("move", "sail", "go", "dock")))[1][0], ("sail", "go", "dock"))
        swap = (("call", "x", "a"), ("call", "y", "x"), ("call", "a", "y"))
        self.assertEqual(told(self, edited, LONE, swap), (LONE[0], (("x", "p", "w"), ("y", "p", "v"))))

    def test_refused(self):
        for edit, error, kept in (
            (("put", "tide", "wind", "go"), Twice, {"name": "tide"}), (("put", "tide", "go", "sea"), Twice, {"name": "tide"}),
            (("put", "late", "go", "sea"), Ring, {}), (("put", "late", "go", "go"), Ring, {}),
            (("put", "late", "wind", "air"), NoEvent, {"event": "wind"}), (("put", "late", "go", "air"), NoEvent, {"event": "air"}),
            (("out", "late"), NoArc, {"name": "late"}), (("move", "late", "wind", "go"), NoArc, {"name": "late"}),
            (("move", "tide", "wind", "air"), NoEvent, {"event": "wind"}), (("move", "tide", "go", "air"), NoEvent, {"event": "air"}),
            (("move", "tide", "go", "sea"), Ring, {}), (("move", "tide", "go", "go"), Ring, {}),
            (("move", "sail", "go", "dock"), Ring, {}), (("call", "late", "tide"), NoArc, {"name": "late"}),
            (("call", "late", "late"), NoArc, {"name": "late"}), (("call", "tide", "sail"), Twice, {"name": "sail"}),
            (("call", "tide", "tide"), Twice, {"name": "tide"}),
        ):
            wide = tuple(sorted([*RANGES, ("late", 0, 1)]))
            for edits in ((edit,), (("call", "crane", "pilot"), edit), (edit, ("out", "none"))):
                refused(self, error, kept, edited, PLAN, edits)
                refused(self, error, kept, edits_back, PLAN, edits)
                refused(self, error, kept, felt_events, PLAN, wide, edits)
                for function in (is_felt, least_felt, healed):
                    refused(self, error, kept, function, PLAN, wide, edits, ("none",))
                self.assertEqual(told(self, first_refused, PLAN, edits), edits.index(edit))

    def test_by_trying(self):
        chance = random.Random(91)
        done = 0
        for _ in range(400):
            web = some_web(chance, "pqr", ("a", "b", "c"))
            edits = tuple([some_edit(chance, ("a", "b", "c", "z"), "pqrst") for _ in range(chance.randint(1, 3))])
            changed, refusal, place = plainly_edited(web, edits)
            self.assertEqual(told(self, first_refused, web, edits), place)
            if refusal is not None:
                refused(self, *refusal, edited, web, edits)
                refused(self, *refusal, edits_back, web, edits)
                continue
            done += 1
            self.assertEqual(told(self, edited, web, edits), changed)
            self.check_back(web, edits)
        self.assertGreater(done, 40)

    def check_back(self, web, edits):
        back = told(self, edits_back, web, edits)
        self.assertTrue(all(is_edit(edit) for edit in back))
        words = {"put": "out", "out": "put", "move": "move", "call": "call"}
        self.assertEqual([edit[0] for edit in back], [words[edit[0]] for edit in edits[::-1]])
        for many in range(len(edits) + 1):
            self.assertEqual(edited(edited(web, edits), back[:many]), edited(web, edits[:len(edits) - many]))

    def test_back(self):
        self.assertEqual(told(self, edits_back, PLAN, (("out", "tide"), ("call", "sail", "pilot"))),
                         (("call", "pilot", "sail"), ("put", "tide", "sea", "go")))
        self.assertEqual(told(self, edits_back, PLAN, (("move", "tide", "dock", "go"), ("put", "late", "sea", "go"))),
                         (("out", "late"), ("move", "tide", "sea", "go")))
        self.assertEqual(told(self, edits_back, PLAN, ()), ())

    def test_edits_to(self):
        self.assertEqual(told(self, edits_to, PLAN, SLOW), (("out", "tide"), ("put", "tide", "dock", "go")))
        self.assertEqual(told(self, edits_to, PLAN, PLAN), ())
        self.assertEqual(told(self, edits_to, EMPTY, EMPTY), ())
        self.assertEqual(told(self, edits_to, (PLAN[0], ()), SLOW),
                         (("put", "crane", "dock", "go"), ("put", "sail", "sea", "dock"), ("put", "tide", "dock", "go")))
        self.assertEqual(told(self, edits_to, SLOW, (PLAN[0], ())), (("out", "crane"), ("out", "sail"), ("out", "tide")))
        turned = (PLAN[0], (("b", "sea", "go"), ("crane", "go", "dock"), ("tide", "sea", "go")))
        self.assertEqual(told(self, edits_to, PLAN, turned),
                         (("out", "crane"), ("out", "sail"), ("put", "b", "sea", "go"), ("put", "crane", "go", "dock")))
        refused(self, Unfit, {}, edits_to, PLAN, EMPTY)
        refused(self, Unfit, {}, edits_to, (("a", "b"), ()), (("a",), ()))
        for one, other, _ in small_pairs(92, 40):
            self.assertEqual(edited(one, told(self, edits_to, one, other)), other)

    def test_many_edits(self):
        events = tuple("abcdefghijkl")
        arcs = [(one + other, one, other) for one in events for other in events if one < other]
        web = events, tuple(arcs)
        edits = edits_to((events, ()), web)
        self.assertEqual(len(edits), 66)
        self.assertEqual(edited((events, ()), edits), web)
        self.assertTrue(is_web(edited(web, edits_to(web, (events, tuple(arcs[::2]))))))


class Felt(unittest.TestCase):
    def test_told(self):
        edits = (("out", "tide"), ("put", "pilot", "sea", "dock"))
        self.assertIs(told(self, is_felt, PLAN, RANGES, edits, ("dock", "go")), False)
        self.assertIs(told(self, is_felt, SLOW, RANGES, edits, ("dock", "go")), True)
        self.assertIs(told(self, is_felt, SLOW, RANGES, edits, ("dock", "sea")), False)
        self.assertIs(told(self, is_felt, SLOW, RANGES, edits, ()), False)
        self.assertIs(told(self, is_felt, SLOW, RANGES, (), ("dock", "go", "sea")), False)
        self.assertEqual(told(self, felt_events, PLAN, RANGES, (("move", "tide", "dock", "go"),)), ("go",))
        self.assertEqual(told(self, felt_events, PLAN, RANGES, (("call", "sail", "pilot"),)), ("dock", "go"))
        self.assertEqual(told(self, felt_events, PLAN, RANGES, ()), ())
        self.assertEqual(told(self, felt_events, EMPTY, (), ()), ())

    def test_least_and_healed(self):
        self.assertEqual(told(self, least_felt, BOTH, HOURS, (OUT_X, OUT_Z), ("v",)), [(0, 1)])
        self.assertEqual(told(self, least_felt, LONE, HOURS, (OUT_X, PUT_Z), ("v",)), [(0,)])
        self.assertEqual(told(self, healed, LONE, HOURS, (OUT_X, PUT_Z), ("v",)), [(0, 1)])
        self.assertEqual(told(self, healed, BOTH, HOURS, (OUT_X, OUT_Z), ("v",)), [])
        self.assertEqual(told(self, least_felt, LONE, HOURS, (OUT_X, PUT_Z), ()), [])
        self.assertEqual(told(self, healed, LONE, HOURS, (OUT_X, PUT_Z), ()), [])
        for function in (least_felt, healed):
            self.assertEqual(told(self, function, BOTH, HOURS, (), ("v",)), [])

    def test_places_that_can_not_be_done(self):
        # The move by itself can not be done; both together are felt, the put alone is not.
        edits = (PUT_Z, ("move", "z", "v", "w"))
        self.assertEqual(told(self, least_felt, LONE, HOURS, edits, ("v", "w")), [(0, 1)])
        self.assertEqual(told(self, least_felt, LONE, HOURS, edits, ("v",)), [])
        # Back again: nothing is felt then, though the out alone is.
        self.assertEqual(told(self, healed, LONE, HOURS, (OUT_X, ("put", "x", "p", "v")), ("v",)), [(0, 1)])
        self.assertEqual(told(self, least_felt, LONE, HOURS, (OUT_X, ("put", "x", "p", "v")), ("v",)), [(0,)])

    def test_ascending(self):
        web = (("p", "u", "v", "w"), (("t", "p", "u"), *BOTH[1]))
        hours = (("t", 1, 1), *HOURS)
        edits = (OUT_X, ("out", "t"), OUT_Z)
        self.assertEqual(told(self, least_felt, web, hours, edits, ("u", "v")), [(0, 2), (1,)])
        edits = (("out", "t"), OUT_X, ("put", "x", "p", "v"), ("put", "t", "p", "u"))
        lone = (web[0], (("t", "p", "u"), *LONE[1]))
        self.assertEqual(told(self, healed, lone, hours, edits, ("u", "v")), [(0, 1, 2, 3), (0, 3), (1, 2)])
        self.assertEqual(told(self, least_felt, lone, hours, edits, ("u", "v")), [(0,), (1,)])

    def test_by_trying(self):
        healings = 0
        for web, ranges, edits, some in felt_cases(93, 120):
            felt = {}
            for places in subsets(range(len(edits))):
                found = plainly_felt(web, ranges, [edits[place] for place in places], some)
                if found is not None:
                    felt[places] = found
            args = (web, ranges, edits, some)
            self.assertIs(told(self, is_felt, *args), felt[tuple(range(len(edits)))])
            least = [places for places in felt if felt[places] and not self.parts(felt, places)]
            self.assertEqual(told(self, least_felt, *args), sorted(least))
            good = [places for places in felt if not felt[places] and self.parts(felt, places)]
            self.assertEqual(told(self, healed, *args), sorted(good))
            healings += len(good)
            alone = [event for event in web[0] if plainly_felt(web, ranges, edits, (event,))]
            self.assertEqual(told(self, felt_events, *args[:3]), tuple(alone))
        self.assertGreater(healings, 5)

    def parts(self, felt, places):
        """The felt places that lie within these, but are not all of them."""
        return [part for part in felt if felt[part] and set(part) < set(places)]

    def test_guarantees(self):
        for web, ranges, edits, _ in felt_cases(94, 60):
            words = {edit[0] for edit in edits}
            changed = edited(web, edits)
            for run in all_runs(ranges)[::5]:
                for event in web[0]:
                    if words == {"put"}:
                        self.assertGreaterEqual(time_in(changed, run, event), time_in(web, run, event))
                    if words == {"out"}:
                        self.assertLessEqual(time_in(changed, run, event), time_in(web, run, event))


class Errors(unittest.TestCase):
    def asked(self, error, kept, web, ranges, edits, some):
        for function in (is_felt, least_felt, healed):
            refused(self, error, kept, function, web, ranges, edits, some)
        if some == ("v",):
            refused(self, error, kept, felt_events, web, ranges, edits)

    def test_order(self):
        x_and_z = (("x", 2, 2), ("z", 1, 1))
        refusing = (OUT_Z, ("put", "n", "p", "v"), ("call", "x", "m"))
        for some in (("v",), ("tide",)):
            # The least ARC of the WEB, then the new names in their order, then what edited raises, then some.
            self.asked(NoRange, {"name": "y"}, LONE, x_and_z, refusing, some)
            self.asked(NoRange, {"name": "x"}, LONE, (), (), some)
            self.asked(NoRange, {"name": "n"}, LONE, HOURS, refusing, some)
            self.asked(NoRange, {"name": "m"}, LONE, (("n", 0, 1), *HOURS), refusing, some)
            self.asked(NoRange, {"name": "m"}, LONE, HOURS, refusing[::-1], some)
            self.asked(NoArc, {"name": "z"}, LONE, (("m", 0, 0), ("n", 0, 1), *HOURS), refusing, some)
            self.asked(Twice, {"name": "x"}, LONE, HOURS, (("put", "x", "tide", "v"),), some)
            self.asked(NoEvent, {"event": "wind"}, LONE, HOURS, (("put", "z", "wind", "v"),), some)
            self.asked(Ring, {}, LONE, HOURS, (PUT_Z, ("move", "y", "v", "w")), some)
        for function in (is_felt, least_felt, healed):
            refused(self, NoEvent, {"event": "tide"}, function, LONE, HOURS, (PUT_Z,), ("tide", "v", "wind"))
            refused(self, NoEvent, {"event": "wind"}, function, LONE, HOURS, (), ("v", "wind"))
            # Also where the EDITS are felt at an EVENT ahead of it.
            refused(self, NoEvent, {"event": "wind"}, function, LONE, HOURS, (OUT_X,), ("v", "wind"))

    def test_names_that_need_no_range(self):
        # Neither the names of outs and moves nor the first names of calls are new ones.
        for edit in (("out", "n"), ("move", "n", "p", "v"), ("call", "n", "z")):
            self.asked(NoArc, {"name": "n"}, LONE, HOURS, (edit,), ("v",))


if __name__ == "__main__":
    unittest.main()

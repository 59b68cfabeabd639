"""What the tests share: calls made in every way that the document allows, odd things, small WEBS and all their RUNS."""

import copy
import inspect
import itertools
import random

LISTS = (
    "longest_ways", "late_ways", "least_felt", "healed", "pairs_apart", "enough_sets", "neighbours", "all_orders",
    "unsure_pairs", "sure_journeys", "all_waits", "played", "late_days", "laps", "delayed", "replies",
)

DEEP = "a"
for _ in range(12):
    DEEP = (DEEP,)

ODD = [
    0, 1, -1, 7, 10 ** 50, True, False, None, "", "a", "ab", "sail", "A", "a b", "put", [], [[]], ["a"], [["a"], []],
    [()], ((),), ([],), (None,), (True,), (False, True), (1,), (0, 1, 2), ("",), ("A",), ("abcdefghi",), ("\u00e9",),
    (("a",),), (["a"], []), ("a", 0), ("a", 0, 1), (("a", True),), (("a", False, True),), (("a", None),), (("a", 0),),
    (["a", 0],), [("a", 0)], ((0, 0),), (((),),), ((), ("a",)), (("a", "b"), ["x", "a", "b"]), ("a", "b"), ("b", "a"),
    ("a", "a"), ("ab", "cd"), ("out", 3), ("out", ["a"]), ["out", "a"], ("zzzzzzzz",), (("a", 0, 1), ("a", 0, 1)), DEEP,
    [DEEP], (0, ()), (1, ()), (True, ()), (False, ()), (0, []), (2, ("a",)), (-1, ("a",)), (0, "a"),
    ((), ()), [[], []], (((), ()), ()), (((), ()), []), (((), ()), ("a",)), (((), ()), (("a",),)), ((("a",), ()), ()),
    (((), ()), (("a", "b", (), "c"),)), (((), ()), (("a", "b", ("a", "a", "a"), "c"),)), ((), (), ()),
    (("a", ("a",)),), (("a", ()),), (("a", "a"),), ((("a", 0),), ()), (("a",), (("a", ()),)), (("a",), ()),
]


def lists(value):
    """The value with lists in the place of tuples, at every depth."""
    if isinstance(value, (list, tuple)):
        return [lists(part) for part in value]
    return value


def tuples(value):
    if isinstance(value, (list, tuple)):
        return tuple([tuples(part) for part in value])
    return value


def has_list(value):
    if isinstance(value, list):
        return True
    return isinstance(value, tuple) and any(has_list(part) for part in value)


def outcome(function, args, named):
    try:
        return "told", function(*args, **named)
    except (LookupError, ValueError) as error:
        return "raised", error.__class__, vars(error)


def same_outcome(test, function, args, named, first):
    """Another call must tell the very same, kinds of values included, and leave what it got as it was."""
    kept = copy.deepcopy((args, named))
    again = outcome(function, args, named)
    test.assertEqual(repr(again), repr(first))
    test.assertEqual(repr((args, named)), repr(kept))
    return again


def called(test, function, args):
    """The outcome of a call: by position, by names, again, and with lists for tuples."""
    names = list(inspect.signature(function).parameters)
    test.assertEqual(len(names), len(args), function.__name__)
    kept = copy.deepcopy(args)
    first = outcome(function, args, {})
    test.assertEqual(repr(args), repr(kept))
    listed = tuple([part if name == "thing" else lists(part) for name, part in zip(names, args)])
    mixed = tuple([part if name == "thing" else half_lists(part) for name, part in zip(names, args)])
    for other in (args, listed, mixed):
        same_outcome(test, function, other, {}, first)
        same_outcome(test, function, (), dict(zip(names, other)), first)
    if first[0] == "told":
        check_kinds(test, function, args, first[1])
    return first


def half_lists(value, depth=0):
    """Lists at every second depth."""
    if isinstance(value, (list, tuple)):
        parts = [half_lists(part, depth + 1) for part in value]
        return parts if depth & 1 else tuple(parts)
    return value


def check_kinds(test, function, args, value):
    """A list is told just where the document says so, and it is a new one each time."""
    if function.__name__ not in LISTS:
        test.assertFalse(has_list(value), function.__name__)
        return
    test.assertIsInstance(value, list)
    test.assertFalse(any(has_list(part) for part in value), function.__name__)
    again = function(*args)
    test.assertIsNot(again, value)
    again.append("more")
    test.assertEqual(function(*args), value)


def told(test, function, *args):
    """What a function tells, asked in all these ways."""
    first = called(test, function, args)
    test.assertEqual(first[0], "told", (function.__name__, args, first))
    return first[1]


def refused(test, error, kept, function, *args):
    """The function must raise just this error, with just this kept."""
    first = called(test, function, args)
    test.assertEqual(first[0], "raised", (function.__name__, args, first))
    test.assertIs(first[1], error)
    test.assertEqual(first[2], kept)


def bent(good):
    """Things that are like a good one but of other kinds, at every depth: none of them is any good."""
    yield (good,)
    yield [good]
    if isinstance(good, tuple):
        yield list(good)
        yield from bent_parts(good)
    elif isinstance(good, int):
        yield from (str(good), None, (good,))
        if good in (0, 1):
            yield bool(good)
    else:
        yield from (None, True, 0, good + "A", (good,), list(good))


def bent_parts(good):
    for place, part in enumerate(good):
        for other in bent(part):
            yield (*good[:place], other, *good[place + 1:])
    yield (*good, None)
    yield (*good, ())
    yield (*good, [])


def judged(test, function, args, good, bad=()):
    """The function with a thing behind args: True for each good one, False for bad, bent and odd ones."""
    for thing in good:
        test.assertIs(told(test, function, *args, thing), True, (function.__name__, thing))
        for other in bent(thing):
            test.assertIs(function(*args, other), False, (function.__name__, other))
    for thing in bad:
        test.assertIs(told(test, function, *args, thing), False, (function.__name__, thing))
    for thing in ODD:
        if repr(thing) not in [repr(one) for one in good]:
            test.assertIs(function(*args, thing), False, (function.__name__, thing))


# What follows tells by trying all, so that nothing of the package is asked.


def all_runs(ranges):
    """All RUNS of the RANGES."""
    spans = [range(low, high + 1) for _, low, high in ranges]
    names = [name for name, _, _ in ranges]
    return [tuple(zip(names, lengths)) for lengths in itertools.product(*spans)]


def end_runs(ranges):
    """All RUNS of least and greatest lengths."""
    names = [name for name, _, _ in ranges]
    return [tuple(zip(names, ends)) for ends in itertools.product(*[sorted({low, high}) for _, low, high in ranges])]


def slow(ranges, way):
    return tuple([(name, high if name in way else low) for name, low, high in ranges])


def time_in(web, run, event):
    lengths = dict(run)
    times = [time_in(web, run, ahead) + lengths[name] for name, ahead, behind in web[1] if behind == event]
    return max(times) if times else 0


def length_in(run, way):
    return sum(dict(run)[name] for name in way)


def ways_in(web, event):
    """All WAYS to the EVENT, ascending."""
    last = [(name, ahead) for name, ahead, behind in web[1] if behind == event]
    if not last:
        return [()]
    return sorted((*way, name) for name, ahead in last for way in ways_in(web, ahead))


def spread_in(one, event, other, events, run):
    return time_in(one, run, event) - max(time_in(other, run, mark) for mark in events)


def way_spread(one, event, other, events, ranges, way):
    """The length of a WAY, less the greatest of the times of events, in its slow RUN."""
    run = slow(ranges, way)
    return length_in(run, way) - max(time_in(other, run, mark) for mark in events)


def subsets(parts):
    """All sets of these parts."""
    return sorted(itertools.chain(*[itertools.combinations(sorted(parts), many) for many in range(len(parts) + 1)]))


def some_web(chance, names, events=("a", "b", "c", "d", "e")):
    """A WEB of these names, in an order of the EVENTS that is not that of their NAMES."""
    order = list(events)
    chance.shuffle(order)
    arcs = []
    for name in names:
        ahead, behind = sorted(chance.sample(range(len(order)), 2))
        arcs.append((name, order[ahead], order[behind]))
    return tuple(events), tuple(sorted(arcs))


def some_ranges(chance, names, wide=2):
    return tuple([(name, low, low + chance.randint(0, wide)) for name in names for low in [chance.randint(0, 2)]])


def small_cases(seed, many, arcs="pqrst", events="abcde"):
    """Pairs of a WEB and its RANGES, with a name that no ARC has."""
    chance = random.Random(seed)
    for _ in range(many):
        web = some_web(chance, arcs[:chance.randint(1, len(arcs))], tuple(events))
        yield web, some_ranges(chance, arcs + "z", 2)


def small_pairs(seed, many):
    """Triples of two WEBS that share some names, in the same place or elsewhere, and RANGES of both."""
    chance = random.Random(seed)
    for _ in range(many):
        one = some_web(chance, chance.sample("pqrstu", 4), ("a", "b", "c", "d"))
        kept = [arc for arc in one[1] if chance.random() < 0.6]
        other = some_web(chance, chance.sample("pqrstu", 4), ("a", "b", "c", "d"))
        if chance.random() < 0.5:
            other = one[0], tuple(kept)
        yield one, other, some_ranges(chance, "pqrstu", 2)


def in_rows(arcs):
    """Whether the EVENTS of these ARCS can stand in a row: no ARCS lead from one back to it."""
    ends = [arc[1:] for arc in arcs]
    while ends:
        later = [pair for pair in ends if pair[0] in [behind for _, behind in ends]]
        if len(later) == len(ends):
            return False
        ends = later
    return True


def some_harbour(chance, ships, berths, crossing=2):
    """A HARBOUR in which each ship calls at some berths, with some ARCS between the ships."""
    events, arcs, stays = {"dawn"}, [], []
    for at, ship in enumerate(ships):
        here = "dawn"
        letter = "abcdefgh"[at]
        for number, berth in enumerate(chance.sample(berths, chance.randint(1, len(berths)))):
            one, two, three = [letter + "pqrstuvwxyz"[3 * number + step] for step in range(3)]
            if number == 0 or chance.random() < 0.3:
                arcs.append((here, one))
            else:
                one = here
            arcs.extend([(one, two), (two, three)])
            events.update((one, two, three))
            stays.append((ship, berth, (one, two, three), f"g{letter}{'abc'[number]}"))
            here = three
    free = sorted(events - {"dawn"} - {stay[2][1] for stay in stays})
    for _ in range(crossing):
        more = (chance.choice(sorted(events)), chance.choice(free))
        if in_rows([("", *pair) for pair in [*arcs, more]]):
            arcs.append(more)
    named = sorted([(name_at(number), *pair) for number, pair in enumerate(arcs)])
    return (tuple(sorted(events)), tuple(named)), tuple(sorted(stays))


def name_at(number):
    return "k" + "abcdefghijklmnopqrstuvwxyz"[number // 26] + "abcdefghijklmnopqrstuvwxyz"[number % 26]


def plain_orders(harbour):
    """All ORDERS, standing or not, ascending."""
    berths = sorted({stay[1] for stay in harbour[1]})
    rows = [sorted(itertools.permutations([stay[0] for stay in harbour[1] if stay[1] == berth])) for berth in berths]
    return [tuple(zip(berths, choice)) for choice in itertools.product(*rows)]


def plain_told(harbour, orders):
    """The ARCS of the told WEB, whether the ORDERS stand or not."""
    at = {(ship, berth): (events, gap) for ship, berth, events, gap in harbour[1]}
    arcs = list(harbour[0][1])
    for berth, row in orders:
        for one, other in zip(row, row[1:]):
            arcs.append((at[one, berth][1], at[one, berth][0][2], at[other, berth][0][1]))
    return sorted(arcs)

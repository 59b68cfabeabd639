"""What the other files share: kinds of values, checks, and WEBS laid out for reckoning."""

from heapq import heappop, heappush

from slowship.errors import NoArc, NoEvent, NoRange


def frozen(value):
    """The value with tuples in the place of lists, at every depth."""
    if isinstance(value, (list, tuple)):
        return tuple([frozen(part) for part in value])
    return value


def is_number(thing):
    """Whether thing is a number: True and False are none."""
    return isinstance(thing, int) and not isinstance(thing, bool)


def is_name(thing):
    """Whether thing is a NAME."""
    if not isinstance(thing, str) or not 1 <= len(thing) <= 8:
        return False
    return all(["a" <= sign <= "z" for sign in thing])


def is_row(thing, many):
    """Whether thing is a tuple of so many."""
    return isinstance(thing, tuple) and len(thing) == many


def ascends(parts):
    """Whether each part is less than the next one."""
    return all([one < other for one, other in zip(parts, parts[1:])])


def is_name_row(thing):
    """Whether thing is a tuple of NAMES."""
    return isinstance(thing, tuple) and all([is_name(part) for part in thing])


def is_name_set(thing):
    """Whether thing is a set of NAMES."""
    return is_name_row(thing) and ascends(thing)


def need_ranges(rows, webs):
    """Raise NoRange for the least ARC, in the first WEB first, with whose name no row begins."""
    known = {row[0] for row in rows}
    for web in webs:
        for arc in web[1]:
            if arc[0] not in known:
                raise NoRange(arc[0])


def need_events(web, events):
    """Raise NoEvent for the first of events that the WEB does not have."""
    known = set(web[0])
    for event in events:
        if event not in known:
            raise NoEvent(event)


def need_arcs(rows, names):
    """Raise NoArc for the first of names with which no row begins."""
    known = {row[0] for row in rows}
    for name in names:
        if name not in known:
            raise NoArc(name)


def lows_of(ranges):
    """The low of each name."""
    return {name: low for name, low, _ in ranges}


def highs_of(ranges):
    """The high of each name."""
    return {name: high for name, _, high in ranges}


def arc_pairs(web):
    """The pairs (ahead, behind) of all ARCS."""
    return [(ahead, behind) for _, ahead, behind in web[1]]


def ends_of(web):
    """The pair (ahead, behind) of each ARC, by its name."""
    return {name: (ahead, behind) for name, ahead, behind in web[1]}


def all_sets(parts):
    """The ascending list of all sets of these parts, which ascend."""
    rows = [()]
    for part in parts:
        rows = [*rows, *[(*row, part) for row in rows]]
    return sorted(rows)


def fewest_first(rows):
    """The rows, those with the fewest parts first, of these the least."""
    return sorted(rows, key=lambda row: (len(row), row))


def reached(start, pairs):
    """The ascending list of all to which pairs (here, there), one behind another, lead from start."""
    steps = {}
    for here, there in pairs:
        steps.setdefault(here, []).append(there)
    seen = set()
    waiting = [start]
    while waiting:
        here = waiting.pop()
        for there in steps.get(here, []):
            if there not in seen:
                seen.add(there)
                waiting.append(there)
    return sorted(seen)


def in_order(web):
    """The EVENTS, each one behind all that lead to it, the least that can be next each time.

    EVENTS on a ring, or behind one, are left out: so a ring shows.
    """
    open_arcs = {event: 0 for event in web[0]}
    nexts = {event: [] for event in web[0]}
    for ahead, behind in arc_pairs(web):
        open_arcs[behind] += 1
        nexts[ahead].append(behind)
    ready = [event for event in web[0] if open_arcs[event] == 0]
    order = []
    while ready:
        event = heappop(ready)
        order.append(event)
        for behind in nexts[event]:
            open_arcs[behind] -= 1
            if open_arcs[behind] == 0:
                heappush(ready, behind)
    return order


def ring_in(web):
    """ARCS that lead from an EVENT back to it, each one to where the next one begins; () if none do."""
    free = {event: True for event in in_order(web)}
    back = {arc[2]: arc for arc in web[1] if arc[1] not in free}
    if not back:
        return ()
    # Each EVENT that is not free has one that is not free ahead: so the way back comes to a ring.
    here = min(back)
    row = []
    places = {}
    while here not in places:
        places[here] = len(row)
        row.append(back[here])
        here = back[here][1]
    return tuple(row[places[here]:][::-1])


def laid_out(web):
    """The pairs (event, arcs) in order, arcs the pairs (name, ahead) of those into the EVENT."""
    into = {event: [] for event in web[0]}
    for name, ahead, behind in web[1]:
        into[behind].append((name, ahead))
    return [(event, into[event]) for event in in_order(web)]


def times_by(rows, lengths):
    """The time of each EVENT of a WEB that is laid out, by the lengths of its ARCS."""
    found = {}
    for event, arcs in rows:
        found[event] = max([found[ahead] + lengths[name] for name, ahead in arcs], default=0)
    return found


def leads_on(web, event):
    """For each EVENT from which ARCS lead to this one the pairs (name, behind) that lead on there.

    The pairs ascend. Under None stand those with which WAYS begin, if an ARC leads to the EVENT:
    so each WAY is a row of pairs from first_place to the EVENT.
    """
    near = reached(event, [(behind, ahead) for ahead, behind in arc_pairs(web)])
    if not near:
        return {}
    later = {arc[2]: True for arc in web[1]}
    onward = {place: [] for place in [None, *near]}
    useful = {place: True for place in [*near, event]}
    for name, ahead, behind in web[1]:
        if behind in useful:
            onward[ahead].append((name, behind))
            if ahead not in later:
                onward[None].append((name, behind))
    return onward


def first_place(onward, event):
    """Where WAYS to the EVENT begin in what leads_on tells."""
    return None if None in onward else event


def places_back(web, onward):
    """The places that lead on, those further along first, None last."""
    back = [event for event in reversed(in_order(web)) if event in onward]
    return [*back, None] if onward else []


def ways_to(web, event):
    """The ascending list of all WAYS to the EVENT."""
    onward = leads_on(web, event)
    found = []
    waiting = [(first_place(onward, event), ())]
    while waiting:
        place, way = waiting.pop()
        if place == event:
            found.append(way)
        else:
            waiting.extend(longer_ways(onward, place, way))
    return found


def longer_ways(onward, place, way):
    """The pairs (place, way) of all ways one name longer, the least last: so it is popped first."""
    return [(behind, (*way, name)) for name, behind in reversed(onward[place])]


def come_by(arcs, used, start):
    """For each place that can be reached from start the pair (name, place ahead) by which it is.

    ARCS that are used are taken back against their direction, all others in it.
    """
    steps = {}
    for name, ahead, behind in arcs:
        here, there = (behind, ahead) if name in used else (ahead, behind)
        steps.setdefault(here, []).append((name, there))
    came = {start: None}
    waiting = [start]
    while waiting:
        here = waiting.pop()
        for name, there in steps.get(here, []):
            if there not in came:
                came[there] = (name, here)
                waiting.append(there)
    return came


def most_apart(arcs, start, goal):
    """The names of the ARCS of as many rows from start to goal as can be, no ARC in two: keys of a dict."""
    used = {}
    came = come_by(arcs, used, start)
    while goal in came:
        here = goal
        while here != start:
            name, here = came[here]
            if name in used:
                del used[name]
            else:
                used[name] = True
        came = come_by(arcs, used, start)
    return used

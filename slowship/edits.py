"""Edits [9]: changes of a WEB, and at which EVENTS they are felt."""

from slowship.common import all_sets, ends_of, frozen, is_name_row, need_events, need_ranges
from slowship.errors import NoArc, NoEvent, NoRange, Ring, Twice, Unfit
from slowship.same import alike_at
from slowship.webs import renamed_arcs, with_arc, without_arc

SIZES = {"put": 4, "out": 2, "move": 4, "call": 3}


def is_edit(thing):
    """Whether thing is an EDIT."""
    if not is_name_row(thing) or not thing:
        return False
    return SIZES.get(thing[0]) == len(thing)


def edited(web, edits):
    """The WEB behind the EDITS."""
    changed = frozen(web)
    for edit in frozen(edits):
        changed = _behind_edit(changed, edit)
    return changed


def _behind_edit(web, edit):
    """The WEB behind one EDIT."""
    if edit[0] == "put":
        return with_arc(web, edit[1], edit[2], edit[3])
    if edit[0] == "out":
        return without_arc(web, edit[1])
    if edit[0] == "move":
        return with_arc(without_arc(web, edit[1]), edit[1], edit[2], edit[3])
    ends = ends_of(web)
    if edit[1] not in ends:
        raise NoArc(edit[1])
    if edit[2] in ends:
        raise Twice(edit[2])
    return renamed_arcs(web, (edit[1:],))


def first_refused(web, edits):
    """The place of the first EDIT that can not be done; None if all can be."""
    changed = frozen(web)
    for place, edit in enumerate(frozen(edits)):
        try:
            changed = _behind_edit(changed, edit)
        except (Twice, NoArc, NoEvent, Ring):
            return place
    return None


def edits_back(web, edits):
    """The EDITS that lead back, the last one taken back first."""
    changed = frozen(web)
    back = []
    for edit in frozen(edits):
        after = _behind_edit(changed, edit)
        back.append(_taken_back(changed, edit))
        changed = after
    return tuple(back[::-1])


def _taken_back(web, edit):
    """The EDIT that takes this one of the WEB back."""
    if edit[0] == "put":
        return "out", edit[1]
    if edit[0] == "call":
        return "call", edit[2], edit[1]
    ahead, behind = ends_of(web)[edit[1]]
    return "put" if edit[0] == "out" else "move", edit[1], ahead, behind


def edits_to(one, other):
    """The outs of all ARCS that other does not have, then the puts of all that one does not have."""
    one, other = frozen(one), frozen(other)
    if one[0] != other[0]:
        raise Unfit()
    outs = [("out", arc[0]) for arc in one[1] if arc not in other[1]]
    puts = [("put", *arc) for arc in other[1] if arc not in one[1]]
    return tuple([*outs, *puts])


def _checked(web, ranges, edits, some):
    """All four with tuples, behind the checks."""
    web, ranges, edits, some = frozen(web), frozen(ranges), frozen(edits), frozen(some)
    need_ranges(ranges, (web,))
    known = {row[0]: True for row in ranges}
    for edit in edits:
        if edit[0] in ("put", "call") and _new_name(edit) not in known:
            raise NoRange(_new_name(edit))
    edited(web, edits)
    need_events(web, some)
    return web, ranges, edits, some


def _new_name(edit):
    """The new name that a put or a call tells."""
    return edit[1] if edit[0] == "put" else edit[2]


def is_felt(web, ranges, edits, some):
    """Whether the EDITS are felt at some."""
    web, ranges, edits, some = _checked(web, ranges, edits, some)
    return _felt_at(web, ranges, edits, some)


def _felt_at(web, ranges, edits, some):
    changed = edited(web, edits)
    for event in some:
        if not alike_at(web, changed, ranges, event):
            return True
    return False


def felt_events(web, ranges, edits):
    """The set of the EVENTS at each of which the EDITS are felt."""
    web, ranges, edits, _ = _checked(web, ranges, edits, ())
    return tuple([event for event in web[0] if _felt_at(web, ranges, edits, (event,))])


def _felt_places(web, ranges, edits, some):
    """For all places that can be done, ascending: whether these EDITS are felt at some."""
    web, ranges, edits, some = _checked(web, ranges, edits, some)
    felt = {}
    for places in all_sets(list(range(len(edits)))):
        picked = tuple([edits[place] for place in places])
        if first_refused(web, picked) is None:
            felt[places] = _felt_at(web, ranges, picked, some)
    return felt


def _has_felt_part(felt, places):
    """Whether some places among these, but not all of them, are felt."""
    for part in felt:
        if felt[part] and part != places and all([place in places for place in part]):
            return True
    return False


def least_felt(web, ranges, edits, some):
    """All places that are felt though no other places among them are."""
    felt = _felt_places(web, ranges, edits, some)
    return [places for places in felt if felt[places] and not _has_felt_part(felt, places)]


def healed(web, ranges, edits, some):
    """All places that are not felt though some places among them are."""
    felt = _felt_places(web, ranges, edits, some)
    return [places for places in felt if not felt[places] and _has_felt_part(felt, places)]

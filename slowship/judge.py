"""One judge [21]: PROMISES of all kinds, and PAPERS against them."""

from slowship.air import is_tight_paper, tight_paper
from slowship.berths import a_ring, is_ring_of
from slowship.cargo import is_missed_way, is_stuck_paper, missed_way, stuck_paper
from slowship.changes import is_undone_paper, undone_paper
from slowship.common import all_sets, fewest_first, frozen, is_row
from slowship.daily import airless_lap, is_airless_lap
from slowship.days import is_bad_lap, is_kept, worst_lap
from slowship.delays import is_late_paper, late_paper
from slowship.edits import edited, is_felt
from slowship.errors import NoNumber, NoPaper, NoRange, NoWord, Unfit
from slowship.lean import deciding_way, is_deciding_way
from slowship.order import is_order_paper, order_paper
from slowship.rules import early_way, is_early_way
from slowship.same import is_unlike_paper, unlike_paper
from slowship.served import is_unsure_way, unsure_way
from slowship.spreads import is_late_way, late_way
from slowship.tugs import a_cover, is_cover
from slowship.webs import with_range

# Where the RANGES of a PROMISE stand in it, its word counted as 0; 0 if it has none.
PLACES = {
    "behind": 5, "ahead": 2, "alike": 3, "unfelt": 2, "needless": 2, "stand": 0, "come": 3, "tugs": 2, "change": 2,
    "journey": 2, "waits": 2, "late": 2, "air": 2, "kept": 2, "dies": 2, "safe": 2,
}


def _known(promise):
    """The PROMISE with tuples, behind the check of its word."""
    promise = frozen(promise)
    if promise[0] not in PLACES:
        raise NoWord(promise[0])
    return promise


def stands(promise):
    """Whether the PROMISE stands: there is no PAPER against it."""
    promise = _known(promise)
    return _against(promise[0], promise[1:]) is None


def paper(promise):
    """A PAPER against the PROMISE."""
    promise = _known(promise)
    found = _against(promise[0], promise[1:])
    if found is None:
        raise NoPaper()
    return found


def _against(word, parts):
    """A PAPER against the PROMISE of this word; None if it stands."""
    if word == "behind":
        return late_way(*parts)
    if word == "ahead":
        return order_paper(*parts)
    if word == "alike":
        return unlike_paper(*parts)
    if word == "unfelt":
        return _felt_paper(*parts)
    if word == "needless":
        return deciding_way(*parts)
    if word == "stand":
        return a_ring(*parts)
    if word == "come":
        return unsure_way(*parts)
    if word == "tugs":
        return _few_cover(*parts)
    if word == "change":
        return missed_way(*parts)
    if word == "journey":
        return stuck_paper(*parts)
    if word == "waits":
        return undone_paper(*parts)
    if word == "late":
        return _late_paper(*parts)
    if word == "air":
        return _tight_paper(*parts)
    if word == "kept":
        return None if is_kept(*parts) else worst_lap(*parts)
    if word == "dies":
        return airless_lap(*parts)
    return early_way(*parts)


def _felt_paper(web, ranges, edits, some):
    """One of some, and how it is unlike behind the EDITS; None if they are not felt."""
    if is_felt(web, ranges, edits, some):
        changed = edited(web, edits)
        for event in some:
            found = unlike_paper(web, changed, ranges, event)
            if found is not None:
                return event, found
    return None


def _few_cover(web, ranges, tows, pause, number):
    """A COVER of so few ships that more tugs than the number are needed; None if there is none."""
    cover = a_cover(web, ranges, tows, pause)
    return cover if _is_few(cover, tows, number) else None


def _is_few(cover, tows, number):
    """Whether a COVER has less ships than TOWS less the number: each tug more than one saves a sure turn."""
    return len(cover[0]) + len(cover[1]) < len(tows) - number


def _late_paper(web, ranges, lates, event, number):
    """As late_paper; None if there is none."""
    try:
        return late_paper(web, ranges, lates, event, number)
    except NoPaper:
        return None


def _tight_paper(web, ranges, one, other, number):
    """As tight_paper; None if there is none."""
    try:
        return tight_paper(web, ranges, one, other, number)
    except NoPaper:
        return None


def is_paper(promise, thing):
    """Whether thing is a PAPER against the PROMISE."""
    promise = _known(promise)
    return _is_against(promise[0], promise[1:], thing)


def _is_against(word, parts, thing):
    """Whether thing is a PAPER against the PROMISE of this word."""
    if word == "behind":
        return is_late_way(*parts, thing)
    if word == "ahead":
        return is_order_paper(*parts, thing)
    if word == "alike":
        return is_unlike_paper(*parts, thing)
    if word == "unfelt":
        return _is_felt_paper(*parts, thing)
    if word == "needless":
        return is_deciding_way(*parts, thing)
    if word == "stand":
        return is_ring_of(*parts, thing)
    if word == "come":
        return is_unsure_way(*parts, thing)
    if word == "tugs":
        return _is_few_cover(*parts, thing)
    if word == "change":
        return is_missed_way(*parts, thing)
    if word == "journey":
        return is_stuck_paper(*parts, thing)
    if word == "waits":
        return is_undone_paper(*parts, thing)
    if word == "late":
        return is_late_paper(*parts, thing)
    if word == "air":
        return is_tight_paper(*parts, thing)
    if word == "kept":
        return is_bad_lap(*parts, thing)
    if word == "dies":
        return is_airless_lap(*parts, thing)
    return is_early_way(*parts, thing)


def _is_felt_paper(web, ranges, edits, some, thing):
    """Whether thing is a pair of one of some, and of how it is unlike behind the EDITS."""
    if not is_felt(web, ranges, edits, some) or not is_row(thing, 2) or thing[0] not in some:
        return False
    return is_unlike_paper(web, edited(web, edits), ranges, thing[0], thing[1])


def _is_few_cover(web, ranges, tows, pause, number, thing):
    """Whether thing is a COVER of so few ships that more tugs than the number are needed."""
    return is_cover(web, ranges, tows, pause, thing) and _is_few(thing, tows, number)


def _ranges_of(promise):
    """The RANGES of the PROMISE; raises Unfit if it has none."""
    if PLACES[promise[0]] == 0:
        raise Unfit()
    return promise[PLACES[promise[0]]]


def _with_ranges(promise, ranges):
    """The PROMISE with these RANGES in the place of its own."""
    place = PLACES[promise[0]]
    return (*promise[:place], ranges, *promise[place + 1:])


def _low_of(promise, name, high):
    """The low of this name; raises NoRange if the RANGES do not have it, NoNumber if high is below low."""
    lows = {other: low for other, low, _ in _ranges_of(promise)}
    if name not in lows:
        raise NoRange(name)
    if high < lows[name]:
        raise NoNumber(high)
    return lows[name]


def with_high(promise, name, high):
    """The PROMISE in whose RANGES this name has this high."""
    promise = _known(promise)
    low = _low_of(promise, name, high)
    return _with_ranges(promise, with_range(_ranges_of(promise), name, low, high))


def most_high(promise, name, top):
    """The greatest number up to top with which as high of this name it stands; None if there is none."""
    promise = _known(promise)
    if promise[0] == "dies":
        raise Unfit()
    good = _low_of(promise, name, top)
    if not stands(with_high(promise, name, good)):
        return None
    # With a high less it stands, too, if it stands.
    bad = top + 1
    while bad - good > 1:
        middle = (good + bad) // 2
        if stands(with_high(promise, name, middle)):
            good = middle
        else:
            bad = middle
    return good


def in_run(promise, run):
    """The PROMISE in whose RANGES each name has its length in the RUN alone."""
    promise, lengths = _known(promise), dict(frozen(run))
    names = [row[0] for row in _ranges_of(promise)]
    for name in names:
        if name not in lengths:
            raise NoRange(name)
    return _with_ranges(promise, tuple([(name, lengths[name], lengths[name]) for name in names]))


def to_blame(promise):
    """The fewest names, the least such set, with which alone at more than low it does not stand; None if it stands."""
    promise = _known(promise)
    if stands(promise):
        return None
    if PLACES[promise[0]] == 0:
        return ()
    wide = [name for name, low, high in _ranges_of(promise) if high > low]
    # With less names at more than low it stands, too, if it stands: so without these it always does.
    needed = [name for name in wide if stands(_blaming(promise, [other for other in wide if other != name]))]
    for names in fewest_first(all_sets(wide)):
        if all([name in names for name in needed]) and not stands(_blaming(promise, names)):
            return names
    return tuple(wide)


def _blaming(promise, names):
    """The PROMISE in whose RANGES all other names have low alone."""
    rows = [(name, low, high if name in names else low) for name, low, high in _ranges_of(promise)]
    return _with_ranges(promise, tuple(rows))

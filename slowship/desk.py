"""A desk [24]: requests as lines of text, put to a Board, and their replies."""

from slowship.board import Board
from slowship.common import is_name
from slowship.errors import BadLine, BadText, NoArc, NoEvent, NoRange, NothingDone, Ring, Twice, Unfit
from slowship.order import can_be_last
from slowship.spreads import late_ways
from slowship.texts import names_text, number_in, number_text, pairs_text, ranges_text, set_in, web_text
from slowship.times import slow_run, times
from slowship.webs import in_turn

# What stands behind each word: EVENTS and NAMES take all words that are left.
FORMS = {
    "come": ("NAME",), "wait": ("NAME", "NAME", "NAME", "NUMBER", "NUMBER"), "slack": ("NAME", "NUMBER", "NUMBER"),
    "told": ("NAME", "NUMBER"), "drop": ("NAME",), "go": ("NAME",), "undo": (), "web": (), "ranges": (), "many": (),
    "deeds": (), "range": ("NAME",), "between": ("NAME",), "spread": ("NAME", "EVENTS"), "sure": ("NAME", "NAME"),
    "turn": (), "last": ("EVENTS",), "late": ("NAME", "NUMBER", "EVENTS"), "slow": ("NAMES",),
}
DEEDS = ("come", "wait", "slack", "told", "drop", "go", "undo")


def is_request(thing):
    """Whether thing is a string that is a request."""
    if not isinstance(thing, str):
        return False
    try:
        _read(thing)
    except BadText:
        return False
    return True


def _read(line):
    """The word of the request, and the list of what stands behind it; raises BadText if it is none."""
    word, *words = line.split(" ")
    if word not in FORMS:
        raise BadText()
    parts = []
    for form in FORMS[word]:
        taken = words if form in ("EVENTS", "NAMES") else words[:1]
        parts.append(_read_part(form, " ".join(taken)))
        words = words[len(taken):]
    if words or (word in ("wait", "slack") and not 0 <= parts[-2] <= parts[-1]):
        raise BadText()
    return word, parts


def _read_part(form, text):
    """What the text tells, of this form."""
    if form == "NUMBER":
        return number_in(text)
    if form == "NAME":
        if not is_name(text):
            raise BadText()
        return text
    names = set_in(text)
    if form == "EVENTS" and not names:
        raise BadText()
    return names


def replies(text):
    """The list of the replies to the lines of the text."""
    requests = []
    for number, line in enumerate(text.split("\n") if text else []):
        try:
            requests.append(_read(line))
        except BadText:
            raise BadLine(number)
    board = Board()
    found = []
    for word, parts in requests:
        found.append(_reply(board, word, parts))
    return found


def _reply(board, word, parts):
    """The reply to a request, refused or not."""
    try:
        return _done(board, word, parts) if word in DEEDS else _asked(board, word, parts)
    except Twice as twice:
        return "refused Twice " + twice.name
    except NoEvent as no_event:
        return "refused NoEvent " + no_event.event
    except NoArc as no_arc:
        return "refused NoArc " + no_arc.name
    except NoRange as no_range:
        return "refused NoRange " + no_range.name
    except Ring:
        return "refused Ring"
    except Unfit:
        return "refused Unfit"
    except NothingDone:
        return "refused NothingDone"


def _done(board, word, parts):
    """Do the deed; the reply to it."""
    if word == "come":
        return number_text(board.come(*parts))
    if word == "wait":
        return _yes_no(board.wait(*parts))
    if word == "slack":
        return _both(board.slack(*parts))
    if word == "told":
        return _both(board.told(*parts))
    if word == "drop":
        return names_text(board.drop(*parts))
    if word == "go":
        return names_text(board.go(*parts))
    board.undo()
    return "done"


def _yes_no(sure):
    return "yes" if sure else "no"


def _both(numbers):
    """The texts of two numbers."""
    return " ".join([number_text(number) for number in numbers])


def _asked(board, word, parts):
    """The reply to a request that is no deed."""
    if word == "web":
        return web_text(board.web())
    if word == "ranges":
        return ranges_text(board.ranges())
    if word == "many":
        return number_text(len(board))
    if word == "deeds":
        return number_text(board.deeds())
    if word == "range":
        return _both(board.range_of(*parts))
    if word == "between":
        return _both(board.between(*parts))
    if word == "spread":
        return _both(board.spread(*parts))
    if word == "sure":
        return _yes_no(board.sure(*parts))
    if word == "turn":
        return names_text(in_turn(board.web()))
    if word == "last":
        return names_text(can_be_last(board.web(), board.ranges(), parts[0]))
    if word == "late":
        return _late(board, parts[0], parts[1], parts[2])
    return pairs_text(times(board.web(), slow_run(board.ranges(), parts[0])))


def _late(board, event, number, events):
    """The texts of all late WAYS of the EVENT behind events."""
    rows = late_ways(board.web(), event, board.web(), events, board.ranges(), number)
    return "; ".join([names_text(way) for way in rows]) if rows else "none"

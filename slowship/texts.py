"""Texts [22]: numbers, names, WEBS, RANGES and SHEETS written down, and read again."""

from slowship.common import ascends, ends_of, frozen, is_name, is_name_row, is_row
from slowship.errors import BadLine, BadText, NoRange
from slowship.webs import is_ranges, is_web, with_range

NOTHING = "-"
DIGITS = 60


def number_text(number):
    """The text of the number."""
    # Python writes, and reads, some thousands of digits at once and no more: so it is done part by part.
    parts = []
    left = abs(number)
    while left >= 10 ** 60:
        left, part = divmod(left, 10 ** 60)
        parts.append(str(part).zfill(DIGITS))
    parts.append(str(left))
    return ("-" if number < 0 else "") + "".join(parts[::-1])


def number_in(text):
    """The number with this text."""
    digits = text.removeprefix("-")
    if not _are_digits(digits) or text == "-0":
        raise BadText()
    padded = digits.zfill(-(-len(digits) // DIGITS) * DIGITS)
    number = 0
    for start in range(0, len(padded), DIGITS):
        number = number * 10 ** 60 + int(padded[start:start + DIGITS])
    return number if text == digits else -number


def _are_digits(text):
    """Whether the text is one of decimal digits, without zeros in front."""
    if text == "" or not all(["0" <= sign <= "9" for sign in text]):
        return False
    return text == "0" or text[0] != "0"


def names_text(names):
    """The text of the NAMES, in their order."""
    return " ".join(names) if names else NOTHING


def names_in(text):
    """The tuple of NAMES with this text."""
    if text == NOTHING:
        return ()
    names = tuple(text.split(" "))
    if not is_name_row(names):
        raise BadText()
    return names


def set_in(text):
    """The set of NAMES with this text."""
    names = names_in(text)
    if not ascends(names):
        raise BadText()
    return names


def web_text(web):
    """The text of the WEB."""
    return "; ".join([names_text(web[0]), *[names_text(arc) for arc in web[1]]])


def web_in(text):
    """The WEB with this text."""
    events, *arcs = text.split("; ")
    web = set_in(events), tuple([names_in(part) for part in arcs])
    if not is_web(web):
        raise BadText()
    return web


def _rows_text(rows):
    """The text of rows of a NAME and numbers."""
    parts = [" ".join([row[0], *[number_text(number) for number in row[1:]]]) for row in rows]
    return "; ".join(parts) if parts else NOTHING


def _rows_in(text, many):
    """The ascending tuple of rows of a NAME and so many numbers with this text, no NAME twice."""
    if text == NOTHING:
        return ()
    rows = tuple([_row_in(part, many) for part in text.split("; ")])
    if not ascends([row[0] for row in rows]):
        raise BadText()
    return rows


def _row_in(text, many):
    """The row of a NAME and so many numbers with this text."""
    name, *numbers = text.split(" ")
    if not is_name(name) or len(numbers) != many:
        raise BadText()
    return (name, *[number_in(word) for word in numbers])


def ranges_text(ranges):
    """The text of the RANGES."""
    return _rows_text(ranges)


def pairs_text(pairs):
    """The text of the pairs of a NAME and a number."""
    return _rows_text(pairs)


def ranges_in(text):
    """The RANGES with this text."""
    ranges = _rows_in(text, 2)
    if not is_ranges(ranges):
        raise BadText()
    return ranges


def pairs_in(text):
    """The ascending tuple of pairs of a NAME and a number with this text."""
    return _rows_in(text, 1)


def is_sheet(thing):
    """Whether thing is a SHEET."""
    if not is_row(thing, 2) or not is_web(thing[0]) or not is_ranges(thing[1]):
        return False
    names = {row[0]: True for row in thing[1]}
    return all([arc[0] in names for arc in thing[0][1]])


def _lines_of(sheet):
    """The line of each name: it, low, high, and the EVENTS ahead and behind if an ARC has this name."""
    web, ranges = frozen(sheet)
    ends = ends_of(web)
    return {name: (name, low, high, *ends.get(name, ())) for name, low, high in ranges}


def sheet_text(sheet):
    """The text of the SHEET."""
    lines = [names_text(sheet[0][0])]
    for name, low, high, *ends in _lines_of(sheet).values():
        lines.append(" ".join([name, number_text(low), number_text(high), *ends]))
    return "\n".join(lines)


def _line_in(text):
    """The line with this text."""
    words = text.split(" ")
    if len(words) not in (3, 5) or not is_name_row((words[0], *words[3:])):
        raise BadText()
    return (words[0], number_in(words[1]), number_in(words[2]), *words[3:])


def _with_row(sheet, row):
    """The SHEET with this line in the place of the one of its name; raises BadText if no SHEET has it so."""
    (events, arcs), ranges = sheet
    name, low, high, *ends = row
    kept = [arc for arc in arcs if arc[0] != name]
    more = [(name, *ends)] if ends else []
    changed = (events, tuple(sorted([*kept, *more]))), with_range(ranges, name, low, high)
    if not is_sheet(changed):
        raise BadText()
    return changed


def sheet_in(text):
    """The SHEET with this text."""
    sheet = (((), ()), ())
    for number, line in enumerate(text.split("\n")):
        try:
            sheet = _with_next(sheet, line) if number else ((set_in(line), ()), ())
        except BadText:
            raise BadLine(number)
    return sheet


def _with_next(sheet, line):
    """The SHEET with this line behind all that it has."""
    row = _line_in(line)
    if not ascends([*[other[0] for other in sheet[1]], row[0]]):
        raise BadText()
    return _with_row(sheet, row)


def with_line(sheet, line):
    """The SHEET with this line in the place of the one of its name, or as one more."""
    return _with_row(frozen(sheet), _line_in(line))


def without_line(sheet, name):
    """The SHEET without the line of this name."""
    (events, arcs), ranges = frozen(sheet)
    if name not in [row[0] for row in ranges]:
        raise NoRange(name)
    left = tuple([arc for arc in arcs if arc[0] != name])
    return (events, left), tuple([row for row in ranges if row[0] != name])


def unlike_lines(one, other):
    """The set of the names that have unlike lines in both SHEETS, or a line in just one."""
    ones, others = _lines_of(one), _lines_of(other)
    return tuple(sorted({name for name in [*ones, *others] if ones.get(name) != others.get(name)}))

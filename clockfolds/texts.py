"""Texts of dates, offsets, moments, yearly days and zones, and what they say when they are read."""

from clockfolds.dates import check_number, date_of, day_of, is_leap, month_length
from clockfolds.errors import BadText
from clockfolds.moments import Moment
from clockfolds.yearly import check_yearly, is_yearly
from clockfolds.zones import DAY, Zone, check_offset

DIGITS = "0123456789"
MOST_DIGITS = 30
MOST_ROWS = 4


def year_text(year):
    """The text of a year in a date."""
    sign = "-" if year < 0 else ""
    return f"{sign}{abs(year):04d}"


def date_text(day):
    """The text of a day's date."""
    check_number(day)
    year, month, number = date_of(day)
    return f"{year_text(year)}-{month:02d}-{number:02d}"


def clock_text(second):
    """The text of hours, minutes and seconds."""
    return f"{second // 3600:02d}:{second // 60 % 60:02d}:{second % 60:02d}"


def offset_text(offset):
    """The text of an offset; its seconds are left out if they are 0."""
    check_offset(offset)
    sign = "-" if offset < 0 else "+"
    text = clock_text(abs(offset))
    return sign + (text if offset % 60 != 0 else text[:5])


def moment_text(moment):
    """The text of a moment: the date and the time of its reading, and its offset."""
    return f"{date_text(moment.day)}T{clock_text(moment.second)}{offset_text(moment.offset)}"


def yearly_text(yearly):
    """The text of a yearly day."""
    check_yearly(yearly)
    return " ".join([str(part) for part in yearly])


def row_text(row):
    """The text of a row of a rule."""
    yearly, second, basis, offset = row
    return f"{yearly_text(yearly)} at {second} {basis} {offset}"


def zone_text(zone):
    """The text of the changes and the rule with which a zone was made, in lines."""
    offset, changes, rule, since = zone.told
    lines = [f"offset {offset}"]
    lines.extend([f"change {instant} {later}" for instant, later in changes])
    if rule is not None:
        lines.append(f"since {since}")
        lines.extend([f"row {row_text(row)}" for row in rule])
    return "".join([line + "\n" for line in lines])


def check_text(value):
    """Raise BadText(0) if the value is no string."""
    if not isinstance(value, str):
        raise BadText(0)


def has_digits(text, least, most):
    """Whether a text has only digits, and so many of them."""
    return least <= len(text) <= most and all([letter in DIGITS for letter in text])


def number_told(text):
    """The number with this text, or None."""
    if not has_digits(text.removeprefix("-"), 1, MOST_DIGITS):
        return None
    number = int(text)
    return number if str(number) == text else None


def year_told(text):
    """The year with this text in a date, or None."""
    if not has_digits(text.removeprefix("-"), 4, MOST_DIGITS):
        return None
    year = int(text)
    return year if year_text(year) == text else None


def pair_told(text, least, most):
    """The number with this text of two digits, from the least one on up to the most, or None."""
    if not has_digits(text, 2, 2) or not least <= int(text) <= most:
        return None
    return int(text)


def day_told(text):
    """The day of the date with this text, or None."""
    year = year_told(text[:-6])
    month = pair_told(text[-5:-3], 1, 12)
    if year is None or month is None:
        return None
    number = pair_told(text[-2:], 1, month_length(month, is_leap(year)))
    if number is None:
        return None
    day = day_of(year, month, number)
    return day if date_text(day) == text else None


def second_told(text):
    """The second of the day with this text, or None."""
    parts = [pair_told(text[:2], 0, 23), pair_told(text[3:5], 0, 59), pair_told(text[6:], 0, 59)]
    if None in parts:
        return None
    second = 3600 * parts[0] + 60 * parts[1] + parts[2]
    return second if clock_text(second) == text else None


def offset_told(text):
    """The offset with this text, or None."""
    # Without seconds, it is read as if they stood there.
    second = second_told(text[1:] if len(text) > 6 else text[1:] + ":00")
    if second is None:
        return None
    offset = -second if text.startswith("-") else second
    return offset if offset_text(offset) == text else None


def yearly_told(words):
    """The yearly day with these words, or None."""
    numbers = [number_told(word) for word in words[1:]]
    yearly = (words[0], *numbers)
    return yearly if is_yearly(yearly) else None


def numbers_told(line, word, many):
    """The list of the numbers of a line with a word and so many numbers, or None."""
    words = line.split(" ")
    numbers = [number_told(text) for text in words[1:]]
    if words[0] != word or len(numbers) != many or None in numbers:
        return None
    return numbers


def row_told(line):
    """The row of a rule with this line, or None."""
    words = line.split(" ")
    if len(words) < 7 or words[0] != "row" or words[-4] != "at" or words[-2] not in ("utc", "wall"):
        return None
    yearly = yearly_told(words[1:-4])
    second = number_told(words[-3])
    offset = number_told(words[-1])
    if yearly is None or second is None or offset is None:
        return None
    return yearly, second, words[-2], offset


def read_date(text):
    """The day of the date with this text."""
    check_text(text)
    day = day_told(text)
    if day is None:
        raise BadText(0)
    return day


def read_yearly(text):
    """The yearly day with this text."""
    check_text(text)
    yearly = yearly_told(text.split(" "))
    if yearly is None:
        raise BadText(0)
    return yearly


def read_moment(zone, text):
    """The moment of a zone with this text."""
    check_text(text)
    date, _, rest = text.partition("T")
    day, second, offset = day_told(date), second_told(rest[:8]), offset_told(rest[8:])
    if day is None or second is None or offset is None:
        raise BadText(0)
    instant = DAY * day + second - offset
    if instant < 0 or zone.offset_at(instant) != offset:
        raise BadText(0)
    return Moment(zone, instant)


def line_at(lines, index):
    """The line with this index, or an empty one, which is no line of a zone, behind the last one."""
    return lines[index] if index < len(lines) else ""


def changes_from(lines, index):
    """The list of the changes in the lines from this index on."""
    changes = []
    change = numbers_told(line_at(lines, index), "change", 2)
    while change is not None:
        changes.append(tuple(change))
        change = numbers_told(line_at(lines, index + len(changes)), "change", 2)
    return changes


def rows_from(lines, index):
    """The tuple of the rows of a rule in the lines from this index on, of no more than a rule may have."""
    rows = []
    row = row_told(line_at(lines, index))
    while row is not None and len(rows) < MOST_ROWS:
        rows.append(row)
        row = row_told(line_at(lines, index + len(rows)))
    return tuple(rows)


def read_zone(text):
    """The zone with this text."""
    check_text(text)
    *lines, rest = text.split("\n")
    offset = numbers_told(line_at(lines, 0), "offset", 1)
    if offset is None:
        raise BadText(0)
    changes = changes_from(lines, 1)
    at = 1 + len(changes)
    if at == len(lines) and not rest:
        return Zone(offset[0], changes)
    since = numbers_told(line_at(lines, at), "since", 1)
    if since is None:
        raise BadText(at)
    rule = rows_from(lines, at + 1)
    at = at + 1 + len(rule)
    if len(rule) < 2 or at < len(lines) or rest:
        raise BadText(at)
    return Zone(offset[0], changes, rule=rule, since=since[0])

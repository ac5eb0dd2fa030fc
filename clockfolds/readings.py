"""Readings of a zone's clock: their instants, and the days on which some are skipped or repeated."""

from clockfolds.dates import CYCLE_DAYS, check_number, is_number
from clockfolds.daysets import DaySet
from clockfolds.errors import BadNumber, BadWord
from clockfolds.zones import DAY, check_offset, offset_spans, settled_at


def check_second(value):
    """Raise BadNumber(value) if the value is no second of a day."""
    if not is_number(value) or not 0 <= value < DAY:
        raise BadNumber(value)


def check_gap(value):
    """Raise BadWord(value) if the value does not say what to do with a skipped reading."""
    if value is not None and value not in ("before", "after"):
        raise BadWord(value)


def spans_around(zone, low, high):
    """The stretches of a zone in which its clock may show readings from low on and before high."""
    # No offset is as long as a day.
    return offset_spans(zone, low - DAY, high + DAY)


def reading_at(zone, instant):
    """The reading at an instant."""
    return instant + zone.offset_at(instant)


def instants_of(zone, reading):
    """All instants with a reading, ascending."""
    check_number(reading)
    spans = spans_around(zone, reading, reading + 1)
    return [reading - offset for low, high, offset in spans if low <= reading - offset < high]


def fold_at(zone, instant):
    """The index of an instant among those of its reading."""
    return instants_of(zone, reading_at(zone, instant)).index(instant)


def shown_spans(zone, low, high):
    """The tuples (low, high, offset) of readings that the clock shows between its changes, in their order.

    The readings are from low on and before high.
    """
    shown = []
    for begin, end, offset in spans_around(zone, low, high):
        first = begin + offset if begin + offset > low else low
        last = end + offset if end + offset < high else high
        if first < last:
            shown.append((first, last, offset))
    return shown


def number_steps(zone, low, high):
    """A dict from the readings at which the number of instants may change to the difference.

    The readings are from low on and not after high; before low, the number counts as 0, and at high, too.
    """
    steps = {}
    for first, last, _ in shown_spans(zone, low, high):
        steps[first] = steps.get(first, 0) + 1
        steps[last] = steps.get(last, 0) - 1
    return steps


def profile(zone, low, high):
    """The tuples (low, high, number) of the maximal stretches of readings with the same number of instants."""
    check_number(low)
    check_number(high, low)
    steps = number_steps(zone, low, high)
    # Where one instant is lost and another one gained, the number stays the same.
    marks = [reading for reading in steps if steps[reading] != 0]
    stretches = []
    begin = low
    number = 0
    for mark in sorted(set(marks + [high])):
        if begin < mark:
            stretches.append((begin, mark, number))
        begin = mark
        number = number + steps.get(mark, 0)
    return stretches


def last_jump(zone, reading):
    """The pair of the offsets before and after the last jump over a skipped reading, or None."""
    jump = None
    before = None
    for begin, _, offset in spans_around(zone, reading, reading + 1):
        if before is not None and begin - 1 + before < reading < begin + offset:
            jump = (before, offset)
        before = offset
    return jump


def resolved(zone, reading, *, fold=0, gap=None):
    """The instant of a reading with a fold; for a skipped reading the one that gap asks for, or None."""
    check_number(reading)
    check_number(fold, 0)
    check_gap(gap)
    instants = instants_of(zone, reading)
    if instants:
        return instants[fold] if fold < len(instants) else instants[-1]
    jump = None if gap is None else last_jump(zone, reading)
    if jump is None:
        return None
    instant = reading - (jump[0] if gap == "before" else jump[1])
    return instant if instant >= 0 else None


def repeating(zone):
    """The pair (start, period): from the day start on, the readings repeat after so many days."""
    # The readings of a day may lie almost a day before it and behind it.
    start = settled_at(zone) // DAY + 2
    return start, (1 if zone.form[3] is None else CYCLE_DAYS)


def end_of(frame):
    """The reading at which the first period of the days of a frame (start, period) ends."""
    start, period = frame
    return DAY * (start + period)


def day_from(low, second):
    """The first day on which a second of the day is not before a reading, or an instant."""
    return -((second - low) // DAY)


def days_in(frame, second, stretches):
    """The day set of the days whose reading at a second lies in one of some stretches of readings.

    From the start of the frame (start, period) on, these days repeat. The pairs (low, high) are ascending and tell
    all such stretches from 0 on and before the end of the first period.
    """
    start, period = frame
    days = []
    for low, high in stretches:
        days.extend(list(range(day_from(low, second), day_from(high, second))))
    return DaySet(start, period, days)


def days_with(zone, second, offset):
    """The day set of the days whose reading at a second has an instant with an offset."""
    check_second(second)
    check_offset(offset)
    frame = repeating(zone)
    spans = shown_spans(zone, 0, end_of(frame))
    return days_in(frame, second, [(low, high) for low, high, kept in spans if kept == offset])


def skipped(zone, second):
    """The day set of the days whose reading at a second has no instant."""
    check_second(second)
    frame = repeating(zone)
    stretches = profile(zone, 0, end_of(frame))
    return days_in(frame, second, [(low, high) for low, high, number in stretches if number == 0])


def repeated(zone, second):
    """The day set of the days whose reading at a second has at least two instants."""
    check_second(second)
    frame = repeating(zone)
    stretches = profile(zone, 0, end_of(frame))
    return days_in(frame, second, [(low, high) for low, high, number in stretches if number > 1])

"""Runs: instants on days that repeat, and those at which a recurrence in a zone takes place."""

from clockfolds.dates import check_number, is_number
from clockfolds.daysets import DaySet
from clockfolds.errors import BadWord, TooFew
from clockfolds.readings import (
    check_gap, check_second, day_from, days_in, end_of, instants_of, last_jump, repeating, shown_spans)
from clockfolds.zones import DAY

# The instants of so many seconds are listed and sorted at once.
LISTED_AT_ONCE = 64 * 86400


def least_instant(found):
    """The least instant of some pairs (second, day), or None; where there is no day, it is None."""
    instants = [DAY * day + second for second, day in found if day is not None]
    return sorted(set(instants))[0] if instants else None


class Runs:
    """A set of instants, told by the day sets of finitely many seconds of the UTC day."""

    def __init__(self, parts):
        for second in parts:
            check_second(second)
        self._parts = {second: parts[second] for second in sorted(set(parts)) if parts[second]}

    @classmethod
    def once(cls, instants):
        """The instants of a list."""
        days = {}
        for instant in instants:
            check_number(instant, 0)
            days.setdefault(instant % DAY, []).append(instant // DAY)
        return cls({second: DaySet.of(days[second]) for second in days})

    @property
    def parts(self):
        """The dict from the seconds of the UTC day to their day sets, without empty ones."""
        return {second: self._parts[second] for second in self._parts}

    def __eq__(self, other):
        return isinstance(other, Runs) and self._parts == other._parts

    def __bool__(self):
        return bool(self._parts)

    def __contains__(self, instant):
        return is_number(instant) and instant // DAY in self._days_at(instant % DAY)

    def __or__(self, other):
        both = {second: days | other._parts[second] for second, days in self._parts.items() if second in other._parts}
        return Runs({**self._parts, **other._parts, **both})

    def __and__(self, other):
        return Runs({second: days & other._days_at(second) for second, days in self._parts.items()})

    def __sub__(self, other):
        both = {second: days - other._parts[second] for second, days in self._parts.items() if second in other._parts}
        return Runs({**self._parts, **both})

    def __xor__(self, other):
        both = {second: days ^ other._parts[second] for second, days in self._parts.items() if second in other._parts}
        return Runs({**self._parts, **other._parts, **both})

    def within(self, other):
        """Whether all these instants are in the other set."""
        return all([days.within(other._days_at(second)) for second, days in self._parts.items()])

    def shifted(self, seconds):
        """The set of the instants moved by so many seconds, without those that come to lie below 0."""
        check_number(seconds)
        parts = {}
        for second, days in self._parts.items():
            by, moved = divmod(second + seconds, DAY)
            parts[moved] = days.shifted(by)
        return Runs(parts)

    def how_many(self, low, high):
        """How many instants are from low on and before high."""
        check_number(low)
        check_number(high)
        parts = self._parts.items()
        return sum([days.how_many(day_from(low, second), day_from(high, second)) for second, days in parts])

    def nth(self, number):
        """The instant with this number, from 0 on."""
        check_number(number, 0)
        low = 0
        high = self._day_behind(number)
        # The day on which the instant lies is the first one with more than so many instants before its end.
        while low < high:
            middle = (low + high) // 2
            if self._many_to(middle) > number:
                high = middle
            else:
                low = middle + 1
        seconds = [second for second, days in self._parts.items() if low in days]
        return DAY * low + seconds[number - self._many_to(low - 1)]

    def next_from(self, instant):
        """The least instant of the set not before an instant, or None."""
        check_number(instant)
        parts = self._parts.items()
        return least_instant([(second, days.next_from(day_from(instant, second))) for second, days in parts])

    def last_to(self, instant):
        """The greatest instant of the set not after an instant, or None."""
        check_number(instant)
        parts = self._parts.items()
        found = [(second, days.last_to((instant - second) // DAY)) for second, days in parts]
        instants = [DAY * day + second for second, day in found if day is not None]
        return sorted(set(instants))[-1] if instants else None

    def first_beyond(self, other):
        """The least instant of this set that is not in the other one, or None."""
        parts = self._parts.items()
        return least_instant([(second, days.first_beyond(other._days_at(second))) for second, days in parts])

    def first_unlike(self, other):
        """The least instant that is in exactly one of both sets, or None."""
        seconds = sorted(set([*self._parts, *other._parts]))
        return least_instant([(at, self._days_at(at).first_unlike(other._days_at(at))) for at in seconds])

    def first_meeting(self, other):
        """The least instant that is in both sets, or None."""
        parts = (self & other)._parts
        return least_instant([(second, days.next_from(0)) for second, days in parts.items()])

    def instants(self, low, high):
        """The instants from low on and before high, ascending."""
        check_number(low)
        check_number(high)
        begin = self.next_from(low)
        while begin is not None and begin < high:
            end = begin + LISTED_AT_ONCE if begin + LISTED_AT_ONCE < high else high
            found = self._instants_between(begin, end)
            yield from found
            begin = self.next_from(end)

    def _days_at(self, second):
        """The day set of a second of the UTC day."""
        # Made without of: operators call this, and a moment's of goes on to generators.
        return self._parts[second] if second in self._parts else DaySet(0, 1, [])

    def _many_to(self, day):
        """How many instants are on the days up to this one."""
        return sum([days.how_many(0, day + 1) for days in self._parts.values()])

    def _day_behind(self, number):
        """A day not before that of the instant with this number."""
        for days in self._parts.values():
            if not days.is_finite:
                return days.nth(number)
        end = sorted(set([0] + [days.start for days in self._parts.values()]))[-1]
        if number >= self._many_to(end):
            raise TooFew(self._many_to(end))
        return end

    def _instants_between(self, low, high):
        """The list of the instants from low on and before high, ascending."""
        found = []
        for second, part in self._parts.items():
            first = day_from(low, second)
            last = day_from(high, second)
            found.extend([DAY * day + second for day in part.days(first, last)])
        return sorted(set(found))


def reading_stretches(zone, second, end):
    """The pairs (low, high) of stretches of readings from 0 on and before end, ascending, with a reading at a second.

    Within each of them, the readings have instants with the same offsets, and lie in the same jumps of the clock.
    """
    marks = [0, end]
    for low, high, _ in shown_spans(zone, 0, end):
        marks.extend([low, high])
    bounds = sorted(set(marks))
    return [(low, high) for low, high in zip(bounds, bounds[1:]) if day_from(low, second) < day_from(high, second)]


def taken_offsets(zone, reading, fold, gap):
    """The offsets at the instants at which a recurrence with this reading runs."""
    offsets = [reading - instant for instant in instants_of(zone, reading)]
    if offsets and fold == "each":
        return offsets
    if offsets:
        return offsets[:1] if fold == "first" else offsets[-1:]
    jump = None if gap is None else last_jump(zone, reading)
    if jump is None:
        return []
    return [jump[0] if gap == "before" else jump[1]]


def runs_of(zone, days, second, *, fold="first", gap=None):
    """The runs of a recurrence: of the readings at a second of these days in a zone."""
    check_second(second)
    if fold not in ("first", "last", "each"):
        raise BadWord(fold)
    check_gap(gap)
    frame = repeating(zone)
    stretches = {}
    for low, high in reading_stretches(zone, second, end_of(frame)):
        for offset in taken_offsets(zone, low, fold, gap):
            stretches.setdefault(offset, []).append((low, high))
    runs = Runs({})
    for offset in stretches:
        by, moved = divmod(second - offset, DAY)
        asked = days & days_in(frame, second, stretches[offset])
        runs = runs | Runs({moved: asked.shifted(by)})
    return runs

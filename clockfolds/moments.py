"""Moments: instants in zones, compared by their instants."""

from clockfolds.dates import check_number, date_of, day_of, is_number
from clockfolds.errors import BadNumber
from clockfolds.readings import check_second, fold_at, reading_at, resolved
from clockfolds.zones import DAY


class Moment:
    """An instant in a zone."""

    def __init__(self, zone, instant):
        check_number(instant, 0)
        self._zone = zone
        self._instant = instant

    @classmethod
    def of(cls, zone, year, month, day, second=0, *, fold=0, gap=None):
        """The moment of a reading, chosen as by resolved, or None."""
        number = day_of(year, month, day)
        check_second(second)
        instant = resolved(zone, DAY * number + second, fold=fold, gap=gap)
        return None if instant is None else cls(zone, instant)

    @property
    def zone(self):
        """The zone."""
        return self._zone

    @property
    def instant(self):
        """The instant."""
        return self._instant

    @property
    def offset(self):
        """The offset of the zone at the instant."""
        return self._zone.offset_at(self._instant)

    @property
    def reading(self):
        """The reading at the instant."""
        return reading_at(self._zone, self._instant)

    @property
    def day(self):
        """The day of the reading."""
        return self.reading // DAY

    @property
    def second(self):
        """The second of the reading's day."""
        return self.reading % DAY

    @property
    def date(self):
        """The tuple (year, month, day) of the reading."""
        return date_of(self.day)

    def __eq__(self, other):
        return isinstance(other, Moment) and self._instant == other._instant

    def __lt__(self, other):
        if not isinstance(other, Moment):
            return NotImplemented
        return self._instant < other._instant

    def __le__(self, other):
        if not isinstance(other, Moment):
            return NotImplemented
        return self._instant <= other._instant

    def __gt__(self, other):
        if not isinstance(other, Moment):
            return NotImplemented
        return self._instant > other._instant

    def __ge__(self, other):
        if not isinstance(other, Moment):
            return NotImplemented
        return self._instant >= other._instant

    def __add__(self, other):
        if not is_number(other) or self._instant + other < 0:
            raise BadNumber(other)
        return Moment(self._zone, self._instant + other)

    def __sub__(self, other):
        if isinstance(other, Moment):
            return self._instant - other._instant
        if not is_number(other) or self._instant < other:
            raise BadNumber(other)
        return Moment(self._zone, self._instant - other)

    def fold(self):
        """The index of the instant among those of its reading."""
        return fold_at(self._zone, self._instant)

    def in_zone(self, zone):
        """The same instant in another zone."""
        return Moment(zone, self._instant)

    def moved(self, *, days=0, seconds=0, fold=0, gap=None):
        """The moment of the reading plus so many days and seconds, chosen as by resolved, or None."""
        check_number(days)
        check_number(seconds)
        instant = resolved(self._zone, self.reading + DAY * days + seconds, fold=fold, gap=gap)
        return None if instant is None else Moment(self._zone, instant)


def agrees(zone, low, high, seconds):
    """The pairs (low, high) of the stretches of instants at which the offset is the same so many seconds later.

    There, moving by the wall may give the same instant as adding the seconds.
    """
    check_number(low)
    check_number(high)
    check_number(seconds)
    begin = max(0, low)
    if high <= begin:
        return []
    early = [instant for instant, _ in zone.changes(begin, high)]
    first = begin + seconds
    last = high + seconds
    late = [instant - seconds for instant, _ in zone.changes(first, last)]
    stretches = []
    since = None
    for instant in sorted(set([begin] + early + late)):
        same = zone.offset_at(instant) == zone.offset_at(instant + seconds)
        if same and since is None:
            since = instant
        elif not same and since is not None:
            stretches.append((since, instant))
            since = None
    return stretches if since is None else stretches + [(since, high)]

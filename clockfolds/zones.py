"""Yearly rules, and zones: the offsets of a clock from UTC, for ever."""

from clockfolds.dates import CYCLE_YEARS, check_number, is_number, kind_of, month_start, year_of, year_start
from clockfolds.errors import BadNumber, BadOrder, BadRow, BadZone
from clockfolds.yearly import all_kinds, is_yearly, number_in

DAY = 86400
MOST_OFFSET = 86399

# A rule changes the offset in each year, so each of its changes comes again within this time.
TWO_YEARS = 2 * 366 * 86400


def is_offset(value):
    """Whether any value is an offset."""
    return is_number(value) and -MOST_OFFSET <= value <= MOST_OFFSET


def check_offset(value):
    """Raise BadNumber(value) if the value is no offset."""
    if not is_offset(value):
        raise BadNumber(value)


def is_row(value):
    """Whether any value is a row of a rule."""
    if not isinstance(value, tuple) or len(value) != 4:
        return False
    yearly, second, basis, offset = value
    if not is_yearly(yearly) or not is_number(second) or not -DAY <= second <= 2 * DAY:
        return False
    return basis in ("utc", "wall") and is_offset(offset)


def row_seconds(rule, kind):
    """The seconds of the year at which the rows of a rule change the offset, in the years of a kind."""
    seconds = []
    for index, (yearly, second, basis, _) in enumerate(rule):
        # The row before the first one is the last one, of the year before.
        ahead = rule[index - 1][3] if basis == "wall" else 0
        seconds.append(DAY * number_in(yearly, kind) + second - ahead)
    return seconds


def first_misplaced(seconds, length):
    """The index of the first second not behind the one before it, or not within the length, or None."""
    before = -1
    for index, second in enumerate(seconds):
        if second <= before or second >= length:
            return index
        before = second
    return None


def check_order(rule):
    """Raise BadOrder for the first year in which a rule does not keep its order."""
    wrong = {}
    for kind in all_kinds():
        index = first_misplaced(row_seconds(rule, kind), DAY * month_start(13, kind[1]))
        if index is not None:
            wrong[kind] = index
    if not wrong:
        return
    # Each kind of year comes within 400 years.
    for year in range(2000, 2000 + CYCLE_YEARS):
        kind = kind_of(year)
        if kind in wrong:
            raise BadOrder(year, wrong[kind])


def check_rule(rule):
    """Raise BadRow or BadOrder for any value that is not a rule which keeps its order."""
    if not isinstance(rule, tuple) or not 2 <= len(rule) <= 4:
        raise BadRow(0)
    for index, row in enumerate(rule):
        if not is_row(row):
            raise BadRow(index)
    for index, row in enumerate(rule):
        if row[3] == rule[index - 1][3]:
            raise BadRow(index)
    check_order(rule)


def changes_in(table, year):
    """The pairs (instant, offset) of a year in which a rule has this table."""
    begin = DAY * year_start(year)
    return [(begin + second, offset) for second, offset in table[kind_of(year)]]


def rule_changes(rule, year):
    """The pairs (instant, offset) of a rule in a year from 2000 on."""
    table = rule_table(rule)
    check_number(year, 2000)
    return changes_in(table, year)


def rule_table(rule):
    """The dict from the kinds of years to the pairs (second of the year, offset) of a rule."""
    check_rule(rule)
    offsets = [row[3] for row in rule]
    return {kind: tuple(zip(row_seconds(rule, kind), offsets)) for kind in all_kinds()}


def last_change(table, instant):
    """The last change not after an instant of a rule with this table, as if it held in 1999, too."""
    year = year_of(instant // DAY)
    for change in reversed(changes_in(table, year)):
        if change[0] <= instant:
            return change
    return changes_in(table, year - 1)[-1]


def rule_run(table, low, high):
    """The changes from low on and before high of a rule with this table, ascending."""
    year = year_of(low // DAY)
    while DAY * year_start(year) < high:
        for change in changes_in(table, year):
            if low <= change[0] < high:
                yield change
        year += 1


def is_change(value, last):
    """Whether any value is a pair of an instant after the last one and an offset."""
    if not isinstance(value, tuple) or len(value) != 2:
        return False
    instant, offset = value
    return is_number(instant) and instant > last and is_offset(offset)


def check_changes(changes):
    """Raise BadZone for any value that is not the list of changes of a zone."""
    if not isinstance(changes, (list, tuple)):
        raise BadZone(0)
    last = 0
    for index, change in enumerate(changes):
        if not is_change(change, last):
            raise BadZone(index)
        last = change[0]


def real_changes(offset, changes):
    """The changes that change the offset, which is this one before them."""
    real = []
    present = offset
    for instant, later in changes:
        if later != present:
            real.append((instant, later))
        present = later
    return real


def ruled_from(offset, changes, since, table):
    """The least instant from which on a zone with these parts has the offsets of its rule."""
    end = since
    for begin, present in reversed([(0, offset), *changes]):
        instant, ruled = last_change(table, end - 1)
        if ruled != present:
            return end
        # All changes of a rule are real: just before this one, it has another offset.
        if instant > begin:
            return instant
        end = begin
    return 0


class Zone:
    """The offsets of a clock at all instants: a first one, changes, and perhaps a rule from an instant on."""

    def __init__(self, offset, changes=(), *, rule=None, since=None):
        check_offset(offset)
        check_changes(changes)
        self._told = (offset, tuple(changes), rule, since)
        self._offset = offset
        self._changes = real_changes(offset, changes)
        self._since = None
        self._table = None
        if rule is not None:
            table = rule_table(rule)
            check_number(since, changes[-1][0] + 1 if changes else 0)
            self._follow(table, since)
        elif since is not None:
            raise BadNumber(since)

    def _follow(self, table, since):
        """Have the offsets of a rule with this table from an instant on."""
        start = ruled_from(self._offset, self._changes, since, table)
        if start == 0:
            self._offset = last_change(table, 0)[1]
        self._changes = [change for change in self._changes if change[0] < start]
        self._since = start
        self._table = table

    @classmethod
    def fixed(cls, offset):
        """The zone that always has this offset."""
        return cls(offset)

    def __eq__(self, other):
        return (isinstance(other, Zone) and self._offset == other._offset and self._changes == other._changes
                and self._since == other._since and self._table == other._table)

    @property
    def told(self):
        """The first offset, the changes, the rule and since with which the zone was made."""
        return self._told

    @property
    def form(self):
        """The canonical form: the offset at 0, the real changes, and the instant and the table of the rule."""
        table = self._table
        copied = None if table is None else {kind: table[kind] for kind in table}
        return self._offset, tuple(self._changes), self._since, copied

    def offset_at(self, instant):
        """The offset at an instant."""
        check_number(instant, 0)
        if self._since is not None and instant >= self._since:
            return last_change(self._table, instant)[1]
        offset = self._offset
        for changed, later in self._changes:
            if changed > instant:
                return offset
            offset = later
        return offset

    def changes(self, low, high):
        """The pairs (instant, offset) from low on and before high at which the offset changes, ascending."""
        check_number(low)
        check_number(high)
        for change in self._changes:
            if low <= change[0] < high:
                yield change
        if self._since is None:
            return
        ruled = self.offset_at(self._since)
        before = self._changes[-1][1] if self._changes else self._offset
        if ruled != before and low <= self._since < high:
            yield self._since, ruled
        behind = low if low > self._since else self._since + 1
        yield from rule_run(self._table, behind, high)

    def next_change(self, instant):
        """The first pair (instant, offset) after an instant at which the offset changes, or None."""
        check_number(instant)
        low = instant + 1
        settled = settled_at(self)
        high = (low if low > settled else settled) + TWO_YEARS
        for change in self.changes(low, high):
            return change
        return None

    def first_unlike(self, other):
        """The least instant at which two zones have different offsets, or None."""
        if self == other:
            return None
        instant = 0
        while self.offset_at(instant) == other.offset_at(instant):
            # As they differ later, at least one of them changes.
            both = [self.next_change(instant), other.next_change(instant)]
            found = [change[0] for change in both if change is not None]
            instant = found[0] if found[0] < found[-1] else found[-1]
        return instant


def settled_at(zone):
    """The instant from which on a zone keeps its offset, or has the offsets of its rule."""
    _, real, since, table = zone.form
    if table is not None:
        return since
    return real[-1][0] if real else 0


def offset_spans(zone, low, high):
    """The tuples (low, high, offset) of the stretches between the changes, from an instant on and before high.

    A low below 0 stands for 0.
    """
    begin = max(0, low)
    if high <= begin:
        return []
    offset = zone.offset_at(begin)
    behind = begin + 1
    spans = []
    for instant, later in zone.changes(behind, high):
        spans.append((begin, instant, offset))
        begin = instant
        offset = later
    return spans + [(begin, high, offset)]

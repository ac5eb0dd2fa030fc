"""What the tests of zones compare with: rules and zones as they are told, gone through one by one."""

import random

from clockfolds.dates import date_of, year_start
from clockfolds.readings import instants_of
from clockfolds.yearly import day_in
from clockfolds.zones import Zone

DAY = 86400
CYCLE = 146097 * DAY

SUMMER = ((("last", 3, 6), 3600, "utc", 7200), (("last", 10, 6), 3600, "utc", 3600))
WALLS = ((("from", 3, 25, 6), 7200, "wall", 7200), (("from", 10, 25, 6), 10800, "wall", 3600))
# Summer at New Year, behind UTC.
SOUTH = ((("nth", 4, 1, 6), 10800, "wall", -14400), (("until", 9, 30, 6), 86400, "wall", -10800))
# At both ends of a year, with the greatest and the least offset.
ENDS = ((("day", 0), 0, "utc", 86399), (("date", 12, 31), 86399, "utc", -86399))
# At midnight between two years of this clock, before the end of the year in UTC.
EASTERN = ((("date", 1, 1), 86400, "wall", 7200), (("date", 12, 31), 86400, "wall", 3600))
THREE = ((("day", 1), -86400, "utc", 0), (("until", 6, 15, 2), 172800, "wall", 5400), (("date", 9, 1), 1, "utc", -5400))
FOUR = ((("nth", 2, 4, 1), -86400, "wall", 3600), (("from", 3, 1, 1), 172800, "wall", 1800),
        (("last", 10, 4), 0, "utc", 3600), (("day", 304), 90000, "wall", -60))
# All changes on one day, with readings that are shown four times.
HASTY = ((("date", 6, 1), 0, "utc", 80000), (("date", 6, 1), 20000, "utc", 50000),
         (("date", 6, 1), 40000, "utc", 35000), (("date", 6, 1), 70000, "utc", -30000))
# Changes one second apart in years in which the last Sunday of March is the 31st.
CLOSE = ((("last", 3, 6), 0, "utc", 3600), (("date", 3, 31), 1, "utc", 0))
# Both changes on one day, and often 53 weeks from one year to the next.
BRIEF = ((("last", 3, 6), 0, "utc", 3600), (("last", 3, 6), 7200, "utc", 0))
# In each year from its second 1 on.
SECOND = ((("day", 0), 1, "utc", 60), (("day", 100), 0, "utc", 0))

RULES = [SUMMER, WALLS, SOUTH, ENDS, EASTERN, THREE, FOUR, HASTY, CLOSE, BRIEF, SECOND]

WORDS = ["nth", "last", "from", "until", "date", "day"]


def told_instants(rule, year):
    """The instants of the rows of a rule in a year, as the document tells them."""
    instants = []
    for index, (yearly, second, basis, _) in enumerate(rule):
        behind = [rule[-1], *rule][index][3] if basis == "wall" else 0
        instants.append(day_in(yearly, year) * DAY + second - behind)
    return instants


def told_changes(rule, year):
    return [(instant, row[3]) for instant, row in zip(told_instants(rule, year), rule)]


def disorder(rule):
    """The first year and row in which a rule does not keep its order, or None."""
    for year in range(2000, 2400):
        instants = told_instants(rule, year)
        for index, instant in enumerate(instants):
            if index > 0 and instant <= instants[index - 1]:
                return year, index
            if not year_start(year) * DAY <= instant < year_start(year + 1) * DAY:
                return year, index
    return None


def ruled(rule, instant):
    """The offset of a rule at an instant."""
    year = date_of(instant // DAY)[0]
    changes = told_changes(rule, year)
    if year > 2000:
        changes = told_changes(rule, year - 1) + changes
    passed = [offset for changed, offset in changes if changed <= instant]
    return passed[-1] if passed else rule[-1][3]


class Told:
    """A zone as it is told: a first offset, changes, and perhaps a rule."""

    def __init__(self, offset, changes=(), rule=None, since=None):
        self.offset = offset
        self.changes = list(changes)
        self.rule = rule
        self.since = since

    def zone(self):
        return Zone(self.offset, self.changes, rule=self.rule, since=self.since)

    def offset_at(self, instant):
        if self.rule is not None and instant >= self.since:
            return ruled(self.rule, instant)
        passed = [offset for changed, offset in self.changes if changed <= instant]
        return passed[-1] if passed else self.offset

    def marks(self, low, high):
        """All instants from low on and before high at which the offset may change, ascending."""
        found = {instant for instant, _ in self.changes}
        if self.rule is not None:
            found.add(self.since)
            first, last = date_of(max(low, self.since, 0) // DAY)[0], date_of(max(high, 0) // DAY)[0]
            for year in range(first, last + 1):
                found.update(instant for instant in told_instants(self.rule, year) if instant > self.since)
        return sorted(mark for mark in found if max(low, 1) <= mark < high)

    def real_changes(self, low, high):
        pairs = [(mark, self.offset_at(mark)) for mark in self.marks(low, high)]
        return [(mark, offset) for mark, offset in pairs if self.offset_at(mark - 1) != offset]

    def spans(self, low, high):
        """The stretches between the instants at which the offset may change."""
        bounds = [max(low, 0), *self.marks(max(low, 0) + 1, high), high]
        return [(begin, end, self.offset_at(begin)) for begin, end in zip(bounds, bounds[1:])]

    def shown(self, low, high):
        """A dict from the readings of all instants from low on and before high to the lists of these instants."""
        instants = {}
        for begin, end, offset in self.spans(low, high):
            for instant in range(begin, end):
                instants.setdefault(instant + offset, []).append(instant)
        return instants

    def shown_around(self, low, high):
        """A dict from readings to the lists of all their instants, for readings from low on and before high."""
        found = self.shown(low - DAY, high + DAY)
        return {reading: found.get(reading, []) for reading in range(low, high)}

    def settled(self):
        """An instant from which on only the rule changes the offset."""
        if self.rule is not None:
            return self.since
        return self.changes[-1][0] if self.changes else 0


def first_apart(one, other):
    """The least instant at which two zones as they are told differ, or None."""
    behind = max(one.settled(), other.settled()) + CYCLE + 2 * 366 * DAY
    for mark in [0, *sorted({*one.marks(0, behind), *other.marks(0, behind)})]:
        if one.offset_at(mark) != other.offset_at(mark):
            return mark
    return None


def some_yearly(source):
    word = source.choice(WORDS)
    month, weekday = source.randint(1, 12), source.randint(0, 6)
    return {
        "nth": ("nth", month, source.randint(1, 4), weekday), "last": ("last", month, weekday),
        "from": ("from", source.randint(1, 11), source.randint(1, 28), weekday),
        "until": ("until", source.randint(2, 12), source.randint(1, 28), weekday),
        "date": ("date", month, source.randint(1, 28)), "day": ("day", source.randint(0, 364)),
    }[word]


def some_rows(source, many):
    """Rows of which neighbours have different offsets, perhaps not in order."""
    offsets = [0, 0]
    while any(offsets[index] == offsets[index - 1] for index in range(len(offsets))):
        offsets = [source.choice([-86399, -3600, 0, 1, 1800, 3600, 7200, 86399]) for _ in range(many)]
    rows = []
    for offset in offsets:
        second = source.choice([-86400, 172800, 0, 3600, 7200, source.randint(-86400, 172800)])
        rows.append((some_yearly(source), second, source.choice(["utc", "wall"]), offset))
    return rows


def some_rule(source):
    """A rule that keeps its order."""
    while True:
        rows = some_rows(source, source.randint(2, 4))
        rows.sort(key=lambda row: day_in(row[0], 2001))
        rule = tuple(rows)
        apart = all(rule[index][3] != rule[index - 1][3] for index in range(len(rule)))
        if apart and disorder(rule) is None:
            return rule


def some_told(source, latest=10 ** 9):
    """A zone with changes near each other and far from each other, perhaps with a rule."""
    changes, instant = [], 0
    for _ in range(source.randint(0, 5)):
        instant += source.choice([1, 2, source.randint(1, 4000), source.randint(1, 200000), source.randint(1, latest)])
        changes.append((instant, source.choice([0, 3600, 7200, -3600, source.randint(-86399, 86399)])))
    offset = source.choice([0, 3600, 7200, source.randint(-86399, 86399)])
    if source.random() < 0.4:
        return Told(offset, changes)
    since = (instant + source.choice([1, 2, source.randint(1, 90000), source.randint(1, latest)])) if changes else (
        source.choice([0, 1, source.randint(0, latest)]))
    return Told(offset, changes, some_rule(source), since)


def some_tolds(many, seed, latest=10 ** 9):
    source = random.Random(seed)
    return [some_told(source, latest) for _ in range(many)]


def hourly(many, seed):
    """Zones with several changes within hours, some of which change nothing."""
    source = random.Random(seed)
    tolds = []
    for _ in range(many):
        changes, instant = [], 0
        for _ in range(source.randint(2, 7)):
            instant += source.choice([1, source.randint(1, 900), source.randint(1, 20000)])
            changes.append((instant, source.choice([0, 1, -1, 600, 3600, source.randint(-20000, 20000)])))
        tolds.append(Told(source.choice([0, 3600, -5000, 86399, -86399]), changes))
    return tolds


TOLDS = [
    Told(0), Told(-86399), Told(86399), Told(3600, [(1, 0)]), Told(0, [(1, 3600), (2, 7200), (3, -7200)]),
    Told(3600, [(100000, 7200), (200000, 7200), (300000, 3600)]),
    Told(3600, rule=SUMMER, since=0), Told(3600, rule=SUMMER, since=1), Told(0, rule=SUMMER, since=7347600),
    Told(3600, rule=SUMMER, since=7347599), Told(7200, rule=SUMMER, since=7347601),
    Told(3600, rule=WALLS, since=10 ** 7),
    Told(-5, [(10 ** 6, -7), (2 * 10 ** 6, -5)], SUMMER, 2 * 10 ** 6 + 1),
    Told(3600, [(7347600, 7200), (26096400, 3600)], SUMMER, 26096401),
    Told(0, [(5 * 10 ** 8, 3600)], SOUTH, 9 * 10 ** 8), Told(0, rule=SOUTH, since=0), Told(0, rule=ENDS, since=0),
    Told(5, rule=ENDS, since=366 * DAY - 1), Told(5, rule=ENDS, since=366 * DAY), Told(0, rule=EASTERN, since=0),
    Told(0, rule=THREE, since=0), Told(1800, rule=FOUR, since=12345678), Told(-60, rule=HASTY, since=0),
    Told(0, rule=HASTY, since=152 * DAY + 30000), Told(0, rule=CLOSE, since=0),
    Told(0, rule=BRIEF, since=0), Told(0, rule=SECOND, since=0), Told(60, rule=SECOND, since=0),
    Told(60, rule=SECOND, since=5), Told(0, [(5, 3600), (9, 0)], SUMMER, 20),
    Told(60, [(50, 3600), (90, 0)], SECOND, 200),
]

# A clock that shows one stretch of readings five times, and others not at all.
OFTEN = Told(0, [(1000, -500), (1600, -1200), (2200, -1700), (2800, -2400), (3000, 9000), (3100, 8900)])


def windows(told):
    """Stretches of readings near the first changes of a zone."""
    marks = [0, *told.marks(0, told.settled() + 366 * DAY)][:3]
    return [(mark + told.offset_at(mark) - 4000, mark + told.offset_at(mark) + 4000) for mark in marks]


def days_told(zone, second, days):
    """Of some days, those whose reading at a second has no instant, those with at least two, and those by offsets."""
    without, often, offsets = [], [], {}
    for day in days:
        instants = instants_of(zone, day * DAY + second)
        if not instants:
            without.append(day)
        if len(instants) > 1:
            often.append(day)
        for instant in instants:
            offsets.setdefault(day * DAY + second - instant, []).append(day)
    return without, often, offsets


def edges(shown):
    """The readings near those at which the number of instants changes, and some others."""
    low, high = min(shown), max(shown) + 1
    steps = [reading for reading in range(low + 1, high) if len(shown[reading]) != len(shown[reading - 1])]
    near = {reading + by for reading in steps for by in (-2, -1, 0, 1)}
    source = random.Random(len(steps))
    return sorted({low, high - 1, *near, *[source.randrange(low, high) for _ in range(20)]} & set(shown))

"""What the tests of runs compare with: parts as plain lists of truths, and readings gone through one by one."""

import random

from clockfolds.runs import Runs
from models import made, some_shapes, truth
from zone_models import DAY, Told

FOLDS = ["first", "last", "each"]
GAPS = [None, "before", "after"]


class ToldRuns:
    """Runs as they are told: a dict from seconds to pairs of a head and a cycle of truths."""

    def __init__(self, shapes):
        self.shapes = shapes

    def runs(self):
        return Runs({second: made(shape) for second, shape in self.shapes.items()})

    def has(self, instant):
        day, second = divmod(instant, DAY)
        return day >= 0 and second in self.shapes and truth(*self.shapes[second], day)

    def instants(self, low_day, high_day):
        """The instants of some days, ascending."""
        return [day * DAY + second for day in range(low_day, high_day) for second in sorted(self.shapes)
                if truth(*self.shapes[second], day)]

    def many_before(self, day):
        """How many instants are before a day."""
        return sum(self.many_of(*shape, day) for shape in self.shapes.values())

    def many_of(self, head, cycle, day):
        if day <= len(head):
            return sum(head[:day])
        turns, rest = divmod(day - len(head), len(cycle))
        return sum(head) + turns * sum(cycle) + sum(cycle[:rest])


def some_told_runs(source, most_parts=4, most_head=5, most_cycle=6):
    many = source.randint(0, most_parts)
    seconds = [source.choice([0, 1, 43200, 86398, 86399, source.randrange(DAY)]) for _ in range(many)]
    shapes = some_shapes(many, most_head, most_cycle, source.random())
    return ToldRuns(dict(zip(seconds, shapes)))


def some_pairs(many, seed):
    """Pairs of runs that share seconds."""
    source = random.Random(seed)
    pairs = []
    for _ in range(many):
        one, other = some_told_runs(source), some_told_runs(source)
        for second in one.shapes:
            if source.random() < 0.5:
                other.shapes[second] = source.choice([one.shapes[second], *some_shapes(1, 3, 4, source.random())])
        pairs.append((one, other))
    return pairs


def instants_told(told, reading):
    """All instants of a reading of a zone as it is told, ascending."""
    spans = told.spans(reading - DAY, reading + DAY + 1)
    return [reading - offset for low, high, offset in spans if low <= reading - offset < high]


def jump_told(told, reading):
    """The offsets before and after the last change at which the clock jumps over a reading, or None."""
    jump = None
    for mark in told.marks(reading - DAY, reading + DAY + 1):
        before, after = told.offset_at(mark - 1), told.offset_at(mark)
        if mark - 1 + before < reading < mark + after:
            jump = (before, after)
    return jump


def taken_told(told, reading, fold, gap):
    """The instants at which a recurrence with this reading runs, ascending."""
    instants = instants_told(told, reading)
    if instants:
        return {"first": instants[:1], "last": instants[-1:], "each": instants}[fold]
    jump = jump_told(told, reading) if gap else None
    if jump is None:
        return []
    instant = reading - jump[GAPS.index(gap) - 1]
    return [instant] if instant >= 0 else []


def days_to_try(told, source):
    """Days near the changes of a zone, near those of its rule, far away, and some others."""
    marks = [0, *told.marks(0, told.settled() + 400 * DAY)]
    settled = told.settled() // DAY
    far = [settled + turns * 146097 + day for turns in (1, 10 ** 20) for day in (0, 85, 152, 302, 365)]
    near = [mark // DAY for mark in source.sample(marks, min(len(marks), 8))]
    return sorted({day + by for day in near + far for by in range(-3, 4) if day + by >= 0})


# A zone whose clock jumps over more than a day, and back.
LEAPS = Told(-86000, [(5 * DAY, 86000), (9 * DAY, -86000), (12 * DAY + 40000, 80000), (12 * DAY + 50000, 86399)])

# A clock that skips day 5 as a whole, and shows day 9 twice.
SKIPS_A_DAY = Told(-43200, [(5 * DAY + 43200, 43200), (9 * DAY + 43200, -43200)])

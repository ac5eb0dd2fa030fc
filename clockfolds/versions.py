"""What moves when a zone is replaced by another version of it."""

from math import lcm

from clockfolds.dates import check_number
from clockfolds.readings import check_second, days_in, end_of, repeating, shown_spans
from clockfolds.runs import runs_of
from clockfolds.zones import DAY


def offset_steps(old, new, low, high):
    """A dict from readings to lists of pairs (offset, difference), for readings from low on and before high.

    From the reading on, the old zone has so many more instants with this offset, compared with the new one, than
    before. Before low, it has none more, and at high, too.
    """
    steps = {}
    for zone, sign in ((old, 1), (new, -1)):
        for first, last, offset in shown_spans(zone, low, high):
            steps.setdefault(first, []).append((offset, sign))
            steps.setdefault(last, []).append((offset, -sign))
    return steps


def moved_stretches(old, new, low, high):
    """The pairs (low, high), ascending, not adjacent, of readings whose instants are not the same in both zones."""
    steps = offset_steps(old, new, low, high)
    more = {}
    stretches = []
    begin = None
    for mark in sorted(set(steps)):
        for offset, difference in steps[mark]:
            more[offset] = more.get(offset, 0) + difference
        # The instants of a reading are the same exactly if their offsets are.
        moved = any([more[offset] != 0 for offset in more])
        if moved and begin is None:
            begin = mark
        elif not moved and begin is not None:
            stretches.append((begin, mark))
            begin = None
    return stretches


def moved_days(old, new, second):
    """The day set of the days whose reading at a second has not the same instants in both zones."""
    check_second(second)
    one_start, one_period = repeating(old)
    two_start, two_period = repeating(new)
    frame = (one_start if one_start > two_start else two_start, lcm(one_period, two_period))
    return days_in(frame, second, moved_stretches(old, new, 0, end_of(frame)))


def moved_readings(old, new, low, high):
    """The pairs (low, high), ascending, not adjacent, of readings that have not the same instants in both zones."""
    check_number(low)
    check_number(high, low)
    return [] if old == new else moved_stretches(old, new, low, high)


def first_moved(old, new):
    """The least reading that has not the same instants in both zones, or None."""
    instant = old.first_unlike(new)
    if instant is None:
        return None
    # The readings shown at this instant move, and later ones are at most some seconds less than a day below it.
    return moved_stretches(old, new, instant - DAY, instant + DAY)[0][0]


def moved_runs(old, new, days, second, *, fold="first", gap=None):
    """The pair of the runs of a recurrence in the old zone only, and in the new one only."""
    before = runs_of(old, days, second, fold=fold, gap=gap)
    after = runs_of(new, days, second, fold=fold, gap=gap)
    return before - after, after - before

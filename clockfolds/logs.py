"""Logs: readings of clocks, with limits on the time between them, and the instants that they may mean."""

from clockfolds.dates import check_number, is_number
from clockfolds.daysets import place_of
from clockfolds.errors import BadLimit, BadLog
from clockfolds.readings import instants_of
from clockfolds.zones import Zone

MOST_ENTRIES = 12


def is_entry(value):
    """Whether any value is a tuple of a zone and a number."""
    return isinstance(value, tuple) and len(value) == 2 and isinstance(value[0], Zone) and is_number(value[1])


def check_entries(entries):
    """Raise BadLog for any value that is not a list of entries."""
    if not isinstance(entries, (list, tuple)):
        raise BadLog(0)
    for index, entry in enumerate(entries):
        if not is_entry(entry):
            raise BadLog(index)
    if not 1 <= len(entries) <= MOST_ENTRIES:
        raise BadLog(0)


def is_limit(value, many):
    """Whether any value is a limit of a log with so many entries."""
    if not isinstance(value, tuple) or len(value) != 4:
        return False
    if not all([is_number(entry) and 0 <= entry < many for entry in value[:2]]):
        return False
    return all([bound is None or is_number(bound) for bound in value[2:]])


def check_log(entries, limits):
    """Raise BadLog or BadLimit for any values that are not the entries and limits of a log."""
    check_entries(entries)
    if not isinstance(limits, (list, tuple)):
        raise BadLimit(0)
    for index, limit in enumerate(limits):
        if not is_limit(limit, len(entries)):
            raise BadLimit(index)


def has_between(instants, low, high):
    """Whether one of these ascending instants is from low on and not after high; None stands for no bound."""
    at = 0 if low is None else place_of(instants, low)
    return at < len(instants) and (high is None or instants[at] <= high)


def is_left_out(limit, entry, instant, left):
    """Whether an instant of an entry breaks a limit with each instant that is left for the other entry."""
    one, other, least, most = limit
    if entry == one:
        # In a limit of an entry with itself, the instant is only compared with itself.
        others = [instant] if one == other else left[other]
        low = None if least is None else instant + least
        high = None if most is None else instant + most
    else:
        others = left[one]
        low = None if most is None else instant - most
        high = None if least is None else instant - least
    return not has_between(others, low, high)


def swept(given, limits):
    """The pair of the lists left of some instants, and of the steps by which the limits exclude the other ones.

    The limits are gone through once, until an entry has no instant.
    """
    left = [list(instants) for instants in given]
    steps = []
    for index, limit in enumerate(limits):
        for entry in limit[:2]:
            gone = [instant for instant in left[entry] if is_left_out(limit, entry, instant, left)]
            steps.extend([(entry, instant, index) for instant in gone])
            left[entry] = [instant for instant in left[entry] if instant not in gone]
            if not left[entry]:
                return left, steps
    return left, steps


def narrowed(given, limits):
    """The pair of the lists left of some instants, and of the steps by which the limits exclude the other ones.

    No further one can be excluded, or an entry has no instant.
    """
    left = given
    steps = []
    while all(left):
        left, found = swept(left, limits)
        steps.extend(found)
        if not found:
            return left, steps
    return left, steps


def log_instants(entries):
    """For each entry the list of the instants of its reading, ascending."""
    return [instants_of(zone, reading) for zone, reading in entries]


def earliest(entries, limits):
    """The instants of the earliest assignment, or None if there is none."""
    check_log(entries, limits)
    left, _ = narrowed(log_instants(entries), limits)
    return [instants[0] for instants in left] if all(left) else None


def latest(entries, limits):
    """The instants of the latest assignment, or None if there is none."""
    check_log(entries, limits)
    left, _ = narrowed(log_instants(entries), limits)
    return [instants[-1] for instants in left] if all(left) else None


def is_possible(left, limits, entry, instant):
    """Whether an entry has an instant in some assignment of those left."""
    chosen = [[instant] if index == entry else instants for index, instants in enumerate(left)]
    rest, _ = narrowed(chosen, limits)
    return all(rest)


def possible(entries, limits):
    """For each entry the list of the instants that it has in some assignment, ascending."""
    check_log(entries, limits)
    left, _ = narrowed(log_instants(entries), limits)
    found = []
    for entry, instants in enumerate(left):
        found.append([instant for instant in instants if is_possible(left, limits, entry, instant)])
    return found


def refutation(entries, limits):
    """None if there is an assignment, otherwise a list of steps that exclude all instants of some entry."""
    check_log(entries, limits)
    left, steps = narrowed(log_instants(entries), limits)
    return None if all(left) else steps


def is_step(step, limits, left):
    """Whether any value is a step that excludes one of the instants left."""
    if not isinstance(step, tuple) or len(step) != 3 or not all([is_number(part) for part in step]):
        return False
    entry, instant, index = step
    if not 0 <= index < len(limits) or entry not in limits[index][:2] or instant not in left[entry]:
        return False
    return is_left_out(limits[index], entry, instant, left)


def is_refutation(entries, limits, steps):
    """Whether any value is a list of right steps that exclude all instants of some entry."""
    check_log(entries, limits)
    if not isinstance(steps, (list, tuple)):
        return False
    left = log_instants(entries)
    for step in steps:
        if not is_step(step, limits, left):
            return False
        left[step[0]].remove(step[1])
    return not all(left)


def in_order(entries, gap=0):
    """The limits by which each entry but the first is at least a gap of seconds after the one before it."""
    check_entries(entries)
    check_number(gap)
    return [(index - 1, index, gap, None) for index in range(1, len(entries))]

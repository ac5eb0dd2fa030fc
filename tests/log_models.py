"""What the tests of logs compare with: all choices of instants, and steps gone through as they are told."""

import itertools
import random

from clockfolds.readings import instants_of
from clockfolds.zones import Zone
from zone_models import OFTEN, SUMMER, Told

EUROPE = Zone(3600, rule=SUMMER, since=0)
AUTUMN, SPRING = 302 * 86400 + 9000, 85 * 86400 + 9000

# A clock that shows the readings from 500 on and before 600 nine times, one after the other.
NINE = Zone(0, [(600 + 100 * turn, -100 - 100 * turn) for turn in range(8)])
OFTEN_ZONE = OFTEN.zone()
BACK = Told(0, [(1000, -300)]).zone()
JUMP = Told(0, [(500, 400)]).zone()
UTC = Zone(0)


def fits(limit, instants):
    """Whether a list of the instants of all entries keeps a limit."""
    one, other, least, most = limit
    apart = instants[other] - instants[one]
    return (least is None or apart >= least) and (most is None or apart <= most)


def assignments(entries, limits):
    """All assignments, by trying all choices."""
    choices = itertools.product(*[instants_of(zone, reading) for zone, reading in entries])
    return [list(instants) for instants in choices if all(fits(limit, instants) for limit in limits)]


def excludes(entry, instant, limit, left):
    """Whether a limit excludes an instant of one of its entries, as the document tells it."""
    one, other, _, _ = limit
    if one == other:
        return not fits(limit, {one: instant})
    there = other if entry == one else one
    return not any(fits(limit, {entry: instant, there: later}) for later in left[there])


def is_told_refutation(entries, limits, steps):
    """Whether a list of triples of numbers is a refutation, as the document tells it."""
    left = [instants_of(zone, reading) for zone, reading in entries]
    for entry, instant, index in steps:
        if not 0 <= index < len(limits) or entry not in limits[index][:2] or instant not in left[entry]:
            return False
        if not excludes(entry, instant, limits[index], left):
            return False
        left[entry].remove(instant)
    return any(not instants for instants in left)


def some_limit(source, many):
    least = source.choice([None, 0, 1, 100, source.randint(-900, 300), source.randint(-900, 900)])
    most = source.choice([None, None, 0, 200, source.randint(-300, 900), source.randint(-900, 900)])
    one, other = source.randrange(many), source.randrange(many)
    if least is not None and most is not None and least > most and source.random() < 0.9:
        least, most = most, least
    if one == other and source.random() < 0.8:
        least, most = -5, source.choice([None, 0])
    return one, other, least, most


def some_entry(source):
    zone, low, high = source.choice([
        (NINE, 500, 600), (NINE, 500, 600), (NINE, 450, 650), (OFTEN_ZONE, -100, 1300), (BACK, 700, 1000),
        (BACK, 700, 1000), (JUMP, 450, 950), (UTC, 400, 1300)])
    return zone, source.randrange(low, high)


def some_log(source, most_entries=4, most_limits=5):
    many = source.choice([1, 2, 3, 3, 4, most_entries])
    entries = [some_entry(source) for _ in range(many)]
    return entries, [some_limit(source, many) for _ in range(source.randint(0, most_limits))]


def some_logs(many, seed, most_entries=4, most_limits=5):
    source = random.Random(seed)
    return [some_log(source, most_entries, most_limits) for _ in range(many)]

"""Comparing moments by the clock within a zone, and by instants between zones."""

from clockfolds.dates import check_number
from clockfolds.zones import DAY, TWO_YEARS, offset_spans, settled_at


def zone_numbers(moments):
    """For each moment the number of its zone; equal zones have the same number."""
    zones = []
    numbers = []
    for moment in moments:
        number = 0
        while number < len(zones) and zones[number] != moment.zone:
            number += 1
        if number == len(zones):
            zones.append(moment.zone)
        numbers.append(number)
    return numbers


def compared(one, other):
    """The mixed comparison of two tuples (number of the zone, reading, instant)."""
    place = 1 if one[0] == other[0] else 2
    if one[place] == other[place]:
        return 0
    return -1 if one[place] < other[place] else 1


def comparisons(moments):
    """For each moment the list of its mixed comparisons with all of them."""
    numbers = zone_numbers(moments)
    told = [(number, moment.reading, moment.instant) for number, moment in zip(numbers, moments)]
    return [[compared(one, other) for other in told] for one in told]


def mixed(one, other):
    """-1, 0 or 1: by readings if the zones are equal, otherwise by instants."""
    return comparisons([one, other])[0][1]


def not_below(row):
    """The moments that are not below the one with this row of comparisons, each as a bit of a number."""
    bits = 0
    for index, sign in enumerate(row):
        if sign <= 0:
            bits = bits | 1 << index
    return bits


def first_broken(moments):
    """The least triple of indexes of a broken triple, or None."""
    # As bits, all third moments of a triple are tried at once.
    above = [not_below(row) for row in comparisons(moments)]
    for one, bits in enumerate(above):
        for other, further in enumerate(above):
            broken = further & ~bits
            if bits >> other & 1 and broken:
                return one, other, (broken & -broken).bit_length() - 1
    return None


def order(moments):
    """The lists of indexes of equal moments, ascending, or None if the comparison is not consistent."""
    if first_broken(moments) is not None:
        return None
    groups = [[] for _ in moments]
    for index, row in enumerate(comparisons(moments)):
        # So many moments are below this one.
        groups[row.count(1)].append(index)
    return [group for group in groups if group]


def first_before_turn(spans):
    """The least instant in some stretches before a later one at which the clock shows not more, or None."""
    for index, (low, high, offset) in enumerate(spans):
        found = high
        for begin, _, later in spans[index + 1:]:
            # From this instant on, the clock shows what it shows again at begin.
            shown = begin + later - offset
            found = shown if shown < found else found
        if found < high:
            return found if found > low else low
    return None


def first_turn(zone, instant):
    """The least pair of instants, not before this one, between which the clock does not advance, or None."""
    check_number(instant, 0)
    settled = settled_at(zone)
    # A rule turns the clock back in each year. A turn shows again at most the readings of two days.
    end = (instant if instant > settled else settled) + TWO_YEARS + 2 * DAY
    spans = offset_spans(zone, instant, end)
    one = first_before_turn(spans)
    if one is None:
        return None
    reading = one + zone.offset_at(one)
    for begin, _, offset in spans:
        if begin > one and begin + offset <= reading:
            return one, begin
    return None

"""Sets of days from 0 on that repeat from some day on."""

from math import gcd, lcm

from clockfolds.dates import check_number, is_number
from clockfolds.errors import BadDays, TooFew


def is_day_list(value):
    """Whether any value is a list of numbers from 0 on."""
    return isinstance(value, (list, tuple)) and all([is_number(day) and day >= 0 for day in value])


def is_truth_list(value):
    """Whether any value is a list of True and False."""
    return isinstance(value, (list, tuple)) and all([isinstance(truth, bool) for truth in value])


def place_of(days, bound):
    """How many of these ascending days are before the bound."""
    low = 0
    high = len(days)
    while low < high:
        middle = (low + high) // 2
        if days[middle] < bound:
            low = middle + 1
        else:
            high = middle
    return low


def cycle_day(period, cycle, number):
    """The day with this number, counted from the first day of the cycle, also backwards."""
    turns, at = divmod(number, len(cycle))
    return cycle[at] + turns * period


def primes_of(number):
    """The primes that divide a number from 1 on."""
    primes = []
    rest = number
    factor = 2
    while factor * factor <= rest:
        if rest % factor == 0:
            primes.append(factor)
        while rest % factor == 0:
            rest = rest // factor
        factor += 1
    return primes + [rest] if rest > 1 else primes


def repeats(period, cycle, parts):
    """Whether the days of a cycle repeat already after this part of the period."""
    if len(cycle) % parts != 0 or period % parts != 0:
        return False
    step = period // parts
    many = len(cycle) // parts
    return cycle[many:] == [day + step for day in cycle[:len(cycle) - many]]


def least_period(period, cycle):
    """The pair of the least period and the days of the first one."""
    if not cycle:
        return 1, []
    # A shorter period takes an equal share of the days, so only primes of their number matter.
    for prime in primes_of(len(cycle)):
        while repeats(period, cycle, prime):
            period = period // prime
            cycle = cycle[:len(cycle) // prime]
    return period, cycle


def least_start(period, head, cycle):
    """The least start, the days before it, and the days of the first period from it on."""
    if not cycle:
        return (head[-1] + 1 if head else 0), head, cycle
    # Both lists are compared from their ends, the cycle continued backwards without end.
    same = 0
    while same < len(head) and head[-1 - same] == cycle_day(period, cycle, -1 - same):
        same += 1
    rest = head[:len(head) - same]
    unlike = cycle_day(period, cycle, -1 - same)
    if rest and rest[-1] > unlike:
        unlike = rest[-1]
    turns, at = divmod(-same, len(cycle))
    early = [day + turns * period for day in cycle[at:]]
    return max(0, unlike + 1), rest, early + [day + (turns + 1) * period for day in cycle[:at]]


def common_frame(one, other):
    """A start and a period that hold for both day sets."""
    start = one.start if one.start > other.start else other.start
    return start, lcm(one.period, other.period)


def in_either(days, others):
    """The days of two lists, ascending."""
    return sorted(set(days + others))


def in_both(days, others):
    """The days that are in the other list, too."""
    there = set(others)
    return [day for day in days if day in there]


def in_first(days, others):
    """The days that are not in the other list."""
    there = set(others)
    return [day for day in days if day not in there]


def in_one(days, others):
    """The days that are in exactly one of two lists, ascending."""
    return in_either(in_first(days, others), in_first(others, days))


def followers(days, others):
    """The least days not before each of the others; both lists are ascending."""
    found = []
    at = 0
    for day in days:
        passed = at
        while at < len(others) and others[at] <= day:
            at += 1
        if at > passed:
            found.append(day)
    return found


class DaySet:
    """A set of days from 0 on that repeats from some day on, in its canonical form."""

    def __init__(self, start, period, days):
        """These ascending days, of which those from the start on repeat with the period.

        No day is behind the first period from the start on.
        """
        known = place_of(days, start)
        self._period, cycle = least_period(period, days[known:])
        self._start, self._head, self._cycle = least_start(self._period, days[:known], cycle)

    @classmethod
    def of(cls, days):
        """The days of a list."""
        if not is_day_list(days):
            raise BadDays(days)
        ascending = sorted(set(days))
        return cls(ascending[-1] + 1 if ascending else 0, 1, ascending)

    @classmethod
    def span(cls, low, high=None):
        """The days from low on and before high; None stands for no end."""
        if not is_number(low) or low < 0:
            raise BadDays(low)
        if high is None:
            return cls(low, 1, [low])
        if not is_number(high) or high < low:
            raise BadDays(high)
        return cls(high, 1, list(range(low, high)))

    @classmethod
    def every(cls, period, first=0):
        """The days first, first + period, and so on."""
        if not is_number(period) or period < 1:
            raise BadDays(period)
        if not is_number(first) or first < 0:
            raise BadDays(first)
        return cls(first, period, [first])

    @classmethod
    def weekdays(cls, weekdays):
        """The days with a weekday in a list."""
        if not is_day_list(weekdays) or any([weekday > 6 for weekday in weekdays]):
            raise BadDays(weekdays)
        # Day 0 is a Saturday, so the first Monday is day 2.
        return cls(0, 7, sorted(set([(weekday + 2) % 7 for weekday in weekdays])))

    @classmethod
    def pattern(cls, head, cycle):
        """The days that head, then cycle for ever, tell to be in the set."""
        if not is_truth_list(head):
            raise BadDays(head)
        if not is_truth_list(cycle) or not cycle:
            raise BadDays(cycle)
        truths = [*head, *cycle]
        return cls(len(head), len(cycle), [day for day, truth in enumerate(truths) if truth])

    @property
    def start(self):
        """The least day from which on the set repeats with its period."""
        return self._start

    @property
    def period(self):
        """The least period."""
        return self._period

    @property
    def head(self):
        """The list of the days before the start."""
        return list(self._head)

    @property
    def cycle(self):
        """The list of the days from the start on and before start + period."""
        return list(self._cycle)

    @property
    def is_finite(self):
        """Whether the set has finitely many days."""
        return not self._cycle

    def __eq__(self, other):
        return (isinstance(other, DaySet) and self._start == other._start and self._period == other._period
                and self._head == other._head and self._cycle == other._cycle)

    def __bool__(self):
        return bool(self._head or self._cycle)

    def __contains__(self, day):
        if not is_number(day):
            return False
        if day < self._start:
            days = self._head
            wanted = day
        else:
            days = self._cycle
            wanted = self._start + (day - self._start) % self._period
        at = place_of(days, wanted)
        return at < len(days) and days[at] == wanted

    def __or__(self, other):
        start, period = common_frame(self, other)
        end = start + period
        return DaySet(start, period, in_either(self._listed(0, end), other._listed(0, end)))

    def __and__(self, other):
        if self.is_finite:
            return DaySet(self._start, 1, other._among(self._head))
        if other.is_finite:
            return DaySet(other._start, 1, self._among(other._head))
        start, period = common_frame(self, other)
        end = start + period
        return DaySet(start, period, in_both(self._listed(0, end), other._listed(0, end)))

    def __sub__(self, other):
        if self.is_finite:
            return DaySet(self._start, 1, in_first(self._head, other._among(self._head)))
        start, period = common_frame(self, other)
        end = start + period
        return DaySet(start, period, in_first(self._listed(0, end), other._listed(0, end)))

    def __xor__(self, other):
        start, period = common_frame(self, other)
        end = start + period
        return DaySet(start, period, in_one(self._listed(0, end), other._listed(0, end)))

    def __invert__(self):
        end = self._start + self._period
        return DaySet(self._start, self._period, in_first(list(range(end)), self._listed(0, end)))

    def within(self, other):
        """Whether all days of this set are in the other one."""
        return self.first_beyond(other) is None

    def first_beyond(self, other):
        """The least day of this set that is not in the other one, or None."""
        if self.is_finite or not other.is_finite:
            return (self - other).next_from(0)
        # The other set has a last day, this one has none.
        number = 0
        while self._day_at(number) in other:
            number += 1
        return self._day_at(number)

    def first_unlike(self, other):
        """The least day that is in exactly one of both sets, or None."""
        one = self.first_beyond(other)
        two = other.first_beyond(self)
        if one is None or two is None:
            return two if one is None else one
        return one if one < two else two

    def shifted(self, days):
        """The set of the days moved by so many days, without those that come to lie below 0."""
        check_number(days)
        start = max(0, self._start + days)
        low = max(0, -days)
        kept = self._listed(low, start + self._period - days)
        return DaySet(start, self._period, [day + days for day in kept])

    def how_many(self, low, high):
        """How many days are from low on and before high."""
        check_number(low)
        check_number(high)
        return max(0, self._count_before(high) - self._count_before(low))

    def nth(self, number):
        """The day with this number, from 0 on."""
        check_number(number, 0)
        if not self._cycle and number >= len(self._head):
            raise TooFew(len(self._head))
        return self._day_at(number)

    def next_from(self, day):
        """The least day of the set not before a day, or None."""
        check_number(day)
        number = self._count_before(day)
        if not self._cycle and number == len(self._head):
            return None
        return self._day_at(number)

    def last_to(self, day):
        """The greatest day of the set not after a day, or None."""
        check_number(day)
        number = self._count_before(day + 1)
        return self._day_at(number - 1) if number > 0 else None

    def days(self, low, high):
        """The days from low on and before high, ascending."""
        check_number(low)
        check_number(high)
        for number in range(self._count_before(low), self._count_before(high)):
            yield self._day_at(number)

    def following(self, other):
        """The set of the least days of this one that are not before a day of the other one."""
        start, period = common_frame(self, other)
        first = self.next_from(start)
        # Whether a day follows depends on the day before it: behind the first day from the
        # common start on, that one repeats, too.
        start = start if first is None else first + 1
        end = start + period
        return DaySet(start, period, followers(self._listed(0, end), other._listed(0, end)))

    def each(self, number, first=0):
        """The set of the days with the numbers first, first + number, and so on."""
        check_number(number, 1)
        check_number(first, 0)
        early = self._head[first::number]
        if not self._cycle:
            return DaySet(self._start, 1, early)
        many = len(self._head)
        late = first if first >= many else many + (first - many) % number
        # The numbers come back to the same place of the cycle after so many steps.
        steps = len(self._cycle) // gcd(number, len(self._cycle))
        period = self._period * (number * steps // len(self._cycle))
        days = [self._day_at(at) for at in range(late, late + number * steps, number)]
        return DaySet(days[0], period, early + days)

    def _day_at(self, number):
        """The day with a number that exists."""
        many = len(self._head)
        if number < many:
            return self._head[number]
        return cycle_day(self._period, self._cycle, number - many)

    def _count_before(self, day):
        """How many days of the set are before a day."""
        if day <= self._start:
            return place_of(self._head, day)
        turns, rest = divmod(day - self._start, self._period)
        repeated = turns * len(self._cycle) + place_of(self._cycle, self._start + rest)
        return len(self._head) + repeated

    def _among(self, days):
        """Those of some ascending days that are in the set."""
        start = self._start
        known = place_of(days, start)
        there = set(self._cycle)
        late = [day for day in days[known:] if start + (day - start) % self._period in there]
        return in_both(days[:known], self._head) + late

    def _listed(self, low, high):
        """The list of the days from low on and before high; low is not below 0."""
        early = self._head[place_of(self._head, low):place_of(self._head, high)]
        if not self._cycle:
            return early
        period = self._period
        first = max(0, (low - self._start) // period)
        moves = range(first * period, max(0, high - self._start), period)
        late = [day + move for move in moves for day in self._cycle]
        return early + late[place_of(late, low):place_of(late, high)]

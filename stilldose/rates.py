"""Rates, and the days that are made of them."""

from stilldose.bounds import check_between
from stilldose.errors import BadSetting

MOST_DROPS = 1000000
MOST_TICKS = 1000000


def drops_by(rate, ticks):
    """How many whole drops the rate has given by so many ticks."""
    drops = rate[0]
    span = rate[1]
    # A rate is not refused here, whatever it is, and a share of no ticks can't be told.
    if span == 0:
        return 0
    return drops * ticks // span


def drops_at(rate, tick):
    """How many drops the rate gives at a tick, the first one being 0."""
    return drops_by(rate, tick + 1) - drops_by(rate, tick)


def check_part(ticks, least, part):
    """Raise BadSetting if the part begins ahead of least, or is no part of a day of so many ticks."""
    check_between("a part's tick", part[0], least, ticks - 1)
    check_between("a part's drops", part[1], 0, MOST_DROPS)
    check_between("a part's ticks", part[2], 1, MOST_TICKS)


def check_day(ticks, parts):
    """Raise BadSetting if there is no such day."""
    check_between("a day's ticks", ticks, 1, MOST_TICKS)
    if len(parts) == 0:
        raise BadSetting("a day has at least one part")
    if parts[0][0] != 0:
        raise BadSetting("a day's first part begins at tick 0")
    least = 0
    for part in parts:
        check_part(ticks, least, part)
        least = part[0] + 1


def drops_within(part, tick):
    """How many drops the part has given ahead of a tick of its day, if no other part came in between."""
    return drops_by((part[1], part[2]), tick - part[0])


def sums_ahead(ticks, parts):
    """How many drops a day gives ahead of each of its parts, and last how many in all."""
    ends = [part[0] for part in parts[1:]] + [ticks]
    sums = [0]
    for part, end in zip(parts, ends):
        sums.append(sums[len(sums) - 1] + drops_within(part, end))
    return sums


def place_of_part(parts, tick):
    """The place of the last part that begins at the tick or ahead of it."""
    # A day may have a part for each of its ticks: halving keeps each look short.
    low = 0
    high = len(parts)
    while high - low > 1:
        middle = (low + high) // 2
        if parts[middle][0] <= tick:
            low = middle
        else:
            high = middle
    return low


class Day:
    """A day's rates; day follows day, each like the first."""

    def __init__(self, ticks, parts):
        check_day(ticks, parts)
        self.ticks = ticks
        self.parts = tuple(parts)
        self.sums = tuple(sums_ahead(ticks, parts))

    def due(self, tick):
        """How many drops are due at the tick."""
        within = tick % self.ticks
        part = self.parts[place_of_part(self.parts, within)]
        return drops_at((part[1], part[2]), within - part[0])

    def due_by(self, ticks):
        """How many drops are due in all, ahead of that tick."""
        days = ticks // self.ticks
        within = ticks % self.ticks
        place = place_of_part(self.parts, within)
        whole_days = days * self.sums[len(self.parts)]
        return whole_days + self.sums[place] + drops_within(self.parts[place], within)

"""The pump with the limiter in front of it, and what is done with it."""

from stilldose.bounds import check_between
from stilldose.errors import Locked, NotThere
from stilldose.limits import checked_rules, longest_window, room_left

# One bound for a lock, a dose, the drops that may wait, and a filling.
MOST = 1000000


class Pump:
    """A pump, with its settings and all that has become of it."""

    def __init__(self, day, rules, lock, dose, hold):
        check_between("a lock", lock, 0, MOST)
        check_between("the greatest dose", dose, 0, MOST)
        check_between("how many drops may wait", hold, 0, MOST)
        self.day = day
        self.rules = checked_rules(rules)
        self.lock = lock
        self.dose = dose
        self.hold = hold
        self.now = 0
        self.running = False
        self.content = 0
        self.waiting = 0
        self.asked = 0
        self.missed = 0
        self.total = 0
        # In how many ticks a dose may be asked for again: a loaded pump knows no more of its last dose.
        self.free = 0
        # What came out at each of the last ticks, the last one last; no more of them than the longest window has.
        self.sent = []

    def time(self):
        """How many ticks there were."""
        return self.now

    def is_running(self):
        """Whether it runs."""
        return self.running

    def state(self):
        """How many drops are in it, wait, are asked for, are missed, and have come out."""
        return (self.content, self.waiting, self.asked, self.missed, self.total)


def start(pump):
    """From now on it runs."""
    pump.running = True


def stop(pump):
    """It does not run, and what wanted to go out is missed."""
    pump.running = False
    pump.missed += pump.waiting + pump.asked
    pump.waiting = 0
    pump.asked = 0


def fill(pump, many):
    """Put so many drops more into the pump; BadSetting."""
    check_between("a filling", many, 0, MOST)
    pump.content += many


def press(pump, many):
    """Ask for a dose of so many drops; Locked."""
    most = pump.dose
    ticks = pump.free
    if not pump.running:
        raise Locked("the pump does not run")
    if many < 1 or many > most:
        raise Locked(f"a dose: {many} is not from 1 to {most}")
    if ticks > 0:
        raise Locked(f"a dose may be asked for again in {ticks} ticks")
    pump.asked += many
    pump.free = pump.lock


def room(pump):
    """How many drops there is room for at the next tick."""
    return room_left(pump.rules, pump.sent)


def tick(pump):
    """Let a tick go by, and tell how many drops are sent at it."""
    if pump.running:
        pump.waiting += pump.day.due(pump.now)
    many = min(room(pump), pump.content, pump.waiting + pump.asked)
    send(pump, many)
    miss_above_hold(pump)
    pump.now += 1
    pump.free = max(0, pump.free - 1)
    return many


def send(pump, many):
    """Send so many drops, those that wait first."""
    waited = min(many, pump.waiting)
    pump.waiting -= waited
    pump.asked -= many - waited
    pump.content -= many
    pump.total += many
    pump.sent.append(many)
    if len(pump.sent) > longest_window(pump.rules):
        pump.sent.pop(0)


def miss_above_hold(pump):
    """Of the drops that wait, miss those above how many may."""
    above = max(0, pump.waiting - pump.hold)
    pump.waiting -= above
    pump.missed += above


def report(pump, back, many):
    """Of what was sent so many ticks ago, only so many drops came out; NotThere."""
    # No more is kept than the longest window has, so this is also the bound of how long ago it may be.
    if back < 1 or back > len(pump.sent):
        raise NotThere(f"nothing is known of the tick {back} ticks ago")
    place = len(pump.sent) - back
    known = pump.sent[place]
    if many < 0 or many > known:
        raise NotThere(f"what came out: {many} is not from 0 to {known}")
    pump.sent[place] = many
    pump.content += known - many
    pump.missed += known - many
    pump.total -= known - many


def counts(pump):
    """All that has become of the pump but what was sent, as numbers, in the order in which they are saved."""
    running = 1 if pump.running else 0
    return [pump.now, running, pump.content, pump.waiting, pump.asked, pump.missed, pump.total, pump.free]


def set_counts(pump, numbers, sent):
    """Give the pump the numbers that counts tells, and what was sent at the last ticks."""
    pump.now = numbers[0]
    pump.running = numbers[1] == 1
    pump.content = numbers[2]
    pump.waiting = numbers[3]
    pump.asked = numbers[4]
    pump.missed = numbers[5]
    pump.total = numbers[6]
    pump.free = numbers[7]
    pump.sent = list(sent)


def twin(pump):
    """Another pump that is like this one and stands alone."""
    other = Pump(pump.day, pump.rules, pump.lock, pump.dose, pump.hold)
    set_counts(other, counts(pump), pump.sent)
    return other

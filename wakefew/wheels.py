"""Wheels within wheels: a wait that finds what is due without a look at all that waits."""

from wakefew.errors import NoRounds
from wakefew.waits import Waits
from wakefew.wholes import is_whole

MOST_WHEELS = 6
LEAST_ROUND = 2
MOST_ROUND = 60


def check_rounds(rounds):
    if not isinstance(rounds, list) or not 1 <= len(rounds) <= MOST_WHEELS:
        raise NoRounds("the rounds are no list of one to six")
    for slots in rounds:
        if not is_whole(slots) or not LEAST_ROUND <= slots <= MOST_ROUND:
            raise NoRounds("a round is no whole number from 2 to 60")


def wheels_of(rounds):
    wheels = []
    unit = 1
    for slots in rounds:
        wheels.append(Wheel(unit, slots))
        unit = unit * slots
    return wheels


def place_in(row, pair):
    # By halves, in a row whose greatest pair comes first.
    low = 0
    high = len(row)
    while low < high:
        middle = (low + high) // 2
        if row[middle] > pair:
            low = middle + 1
        else:
            high = middle
    return low


class Wheel:
    def __init__(self, unit, slots):
        self.unit = unit
        self.slots = slots
        self.span = unit * slots
        self.mask = 0
        self.names_in = {}

    def holds(self, time, now):
        return time // self.span == now // self.span

    def slot_of(self, time):
        return time // self.unit % self.slots

    def lay_in(self, name, time):
        slot = self.slot_of(time)
        if slot not in self.names_in:
            self.names_in[slot] = {}
        self.names_in[slot][name] = True
        self.mask = self.mask | (1 << slot)

    def lift_out(self, name, time):
        slot = self.slot_of(time)
        self.names_in[slot].pop(name)
        if not self.names_in[slot]:
            self.empty(slot)

    def empty(self, slot):
        self.mask = self.mask ^ (1 << slot)
        return list(self.names_in.pop(slot))

    def let_out(self, now, to):
        # Where the round of now is over, all slots are by; else those up to the slot of to.
        passed = self.mask
        if self.holds(to, now):
            passed = passed & ((2 << self.slot_of(to)) - 1)
        names = []
        while passed > 0:
            slot = passed.bit_length() - 1
            names.extend(self.empty(slot))
            passed = passed ^ (1 << slot)
        return names


class Wheels(Waits):
    def __init__(self, rounds, now=0):
        check_rounds(rounds)
        Waits.__init__(self, now)
        self.wheels = wheels_of(rounds)
        # The least time is the last in the row, where it is taken off without a look at the others.
        self.far = []
        self.moves = {}

    def wheel_of(self, name):
        self.check_waits(name)
        return self.wheel_at(self.times[name], self.now)

    def bits(self, k):
        return self.wheels[k].mask

    def moved(self, name):
        self.check_waits(name)
        return self.moves[name]

    def wheel_at(self, time, now):
        for k, wheel in enumerate(self.wheels):
            if wheel.holds(time, now):
                return k
        return len(self.wheels)

    def enter(self, name, time):
        self.moves[name] = 0
        self.lie_down(name, time, self.now)

    def lie_down(self, name, time, now):
        k = self.wheel_at(time, now)
        if k < len(self.wheels):
            self.wheels[k].lay_in(name, time)
        else:
            self.far.insert(place_in(self.far, (time, name)), (time, name))

    def leave(self, name, time):
        self.moves.pop(name)
        k = self.wheel_at(time, self.now)
        if k < len(self.wheels):
            self.wheels[k].lift_out(name, time)
        else:
            self.far.pop(place_in(self.far, (time, name)))

    def pass_on(self, to):
        left = self.come_near(to)
        for wheel in self.wheels:
            left.extend(wheel.let_out(self.now, to))
        # What left its slot is either due, or lies in a lesser wheel from now on.
        over = []
        for name in left:
            if self.times[name] <= to:
                self.moves.pop(name)
                over.append(name)
            else:
                self.moves[name] = self.moves[name] + 1
                self.lie_down(name, self.times[name], to)
        return over

    def come_near(self, to):
        span = self.wheels[-1].span
        names = []
        while self.far and self.far[-1][0] // span <= to // span:
            names.append(self.far.pop()[1])
        return names

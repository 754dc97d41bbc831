"""The keeper of bells: what can be done to it, and what it can be asked."""

from wakefew.bells import Bell
from wakefew.errors import NoGroup, NoStretch, NoTime, NoWeight, Past, Twice
from wakefew.plan import fewest
from wakefew.yard import Yard


def by_weight(bell):
    return (-bell.weight, bell.name)


class Keeper(Yard):
    def __init__(self, rounds=None, now=0):
        Yard.__init__(self, rounds, now)

    def add(self, name, rule, weight=1, group=None, by_day=False):
        if name in self.by_name:
            raise Twice(name)
        if group is not None and not self.groups.has(group):
            raise NoGroup(group)
        if weight < 1:
            raise NoWeight("the weight is below 1")
        bell = Bell(name, rule, weight, group, by_day)
        self.hang(bell)
        return self.lay(bell)

    def move(self, name, first, last):
        bell = self.bell_of(name)
        if first < 0 or last < first:
            raise NoStretch("no stretch from 0 on")
        bell.move(first, last)
        return self.lay(bell)

    def put_off(self, name, by):
        number, first, last = self.about(name)
        return self.move(name, first + by, last + by)

    def let_by(self, name):
        bell = self.bell_of(name)
        number, first, last = bell.about()
        return [("gave", name, number)] + self.settle(bell, last)

    def take(self, name):
        return self.drop(self.bell_of(name))

    def group(self, name, above=None):
        self.groups.add(name, above)
        return []

    def sleep(self, name):
        for bell in self.bells_in(self.groups.sleep(name)):
            self.lift(bell)
        return []

    def wake(self, name):
        return self.lay_all(self.bells_in(self.groups.wake(name)))

    def end(self, name):
        entries = []
        for bell in self.bells_in(self.groups.end(name)):
            entries.extend(self.drop(bell))
        return entries

    def turn(self, by):
        if self.now + self.shift + by < 0:
            raise NoTime("the day's clock would show less than 0")
        self.shift = self.shift + by
        return self.lay_all([bell for bell in self.all_bells() if bell.by_day])

    def idle(self, by):
        if by < 0:
            raise NoTime("time does not go back")
        names = self.pass_to(self.now + by)
        return self.lay_all([self.by_name[name] for name in sorted(names)])

    def go(self, to, most=60, deed=None):
        if to < self.now:
            raise Past("the time to go on to is below now")
        entries = []
        wakings = 0
        while self.wakes_by(to):
            entries.extend(self.ring_all(deed))
            wakings = wakings + 1
            if wakings == most:
                return entries
        self.pass_to(to)
        return entries

    def wakes_by(self, to):
        least = self.waits.least()
        return least is not None and least <= to

    def ring_all(self, deed):
        names = self.pass_to(self.waits.least())
        entries = [("woke", self.now, names[0])]
        may_ring = [bell for bell in self.all_bells() if bell.is_waiting() and bell.since <= self.now]
        for bell in sorted(may_ring, key=by_weight):
            entries.extend(self.ring(bell, deed))
        return entries

    def ring(self, bell, deed):
        entry = ("rang", bell.name, bell.number, self.now, bell.since, bell.until)
        if deed is not None and deed(bell.name, bell.number, self.now) is False:
            return [entry] + self.finish(bell)
        return [entry] + self.settle(bell, self.shown_to(bell))

    def bells(self):
        return sorted(self.by_name)

    def about(self, name):
        return self.bell_of(name).about()

    def known(self):
        return [(bell.name, bell.since, bell.until, bell.weight) for bell in self.all_bells() if bell.is_waiting()]

    def ahead(self):
        return fewest([(name, since, due) for name, since, due, weight in self.known()])

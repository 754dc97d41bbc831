"""Waits: places where things wait for their times. What both kinds have, and the plain row."""

from wakefew.errors import NoBell, Past, Twice


class Waits:
    def __init__(self, now=0):
        self.now = now
        self.times = {}

    def put(self, name, time):
        if name in self.times:
            raise Twice(name)
        if time <= self.now:
            raise Past("the time is not above now")
        self.times[name] = time
        self.enter(name, time)

    def take(self, name):
        self.check_waits(name)
        time = self.times.pop(name)
        self.leave(name, time)
        return time

    def due(self, to):
        if to < self.now:
            raise Past("the time to go on to is below now")
        told = sorted([(self.times[name], name) for name in self.pass_on(to)])
        self.now = to
        for time, name in told:
            self.times.pop(name)
        return told

    def least(self):
        if not self.times:
            return None
        return min(self.times.values())

    def time_of(self, name):
        return self.times.get(name)

    def all_of(self):
        return sorted([(time, name) for name, time in self.times.items()])

    def check_waits(self, name):
        if name not in self.times:
            raise NoBell(name)

    # The three below are each kind's own: how it keeps the places beside the times.

    def enter(self, name, time):
        raise NotImplementedError("each kind of wait has its own")

    def leave(self, name, time):
        raise NotImplementedError("each kind of wait has its own")

    def pass_on(self, to):
        raise NotImplementedError("each kind of wait has its own")


class Row(Waits):
    # A row keeps no places: it looks at each time when it is asked.

    def enter(self, name, time):
        pass

    def leave(self, name, time):
        pass

    def pass_on(self, to):
        return [name for name, time in self.times.items() if time <= to]

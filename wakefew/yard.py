"""The yard: the bells, the groups they are in, and how each is laid to wait for its due."""

from wakefew.errors import NoBell
from wakefew.groups import Groups
from wakefew.waits import Row
from wakefew.wheels import Wheels


class Yard:
    def __init__(self, rounds, now):
        self.waits = Row(now) if rounds is None else Wheels(rounds, now)
        self.rounds = None if rounds is None else list(rounds)
        self.now = now
        self.shift = 0
        self.groups = Groups()
        self.by_name = {}

    def bell_of(self, name):
        if name not in self.by_name:
            raise NoBell(name)
        return self.by_name[name]

    def all_bells(self):
        return [self.by_name[name] for name in sorted(self.by_name)]

    def bells_in(self, homes):
        return [bell for bell in self.all_bells() if bell.home in homes]

    def is_awake(self, bell):
        return bell.home is None or self.groups.awake(bell.home)

    def shown_to(self, bell):
        return self.now + bell.lead(self.shift)

    def hang(self, bell):
        self.by_name[bell.name] = bell

    def lay(self, bell):
        self.lift(bell)
        if not self.is_awake(bell):
            return []
        entries = bell.catch_up(self.shown_to(bell))
        if bell.is_over():
            return entries + self.finish(bell)
        self.let_wait(bell)
        return entries

    def let_wait(self, bell):
        bell.wait(self.now, self.shift)
        self.waits.put(bell.name, bell.until)

    def lay_all(self, bells):
        entries = []
        for bell in bells:
            entries.extend(self.lay(bell))
        return entries

    def lift(self, bell):
        # A bell whose due has just come is out of the wait already.
        if self.waits.time_of(bell.name) is not None:
            self.waits.take(bell.name)
        bell.rest()

    def settle(self, bell, at):
        bell.settle(at)
        if bell.is_over():
            return self.finish(bell)
        return self.lay(bell)

    def finish(self, bell):
        self.remove(bell)
        return [("over", bell.name)]

    def drop(self, bell):
        self.remove(bell)
        return [("dropped", bell.name, bell.number)]

    def remove(self, bell):
        self.lift(bell)
        self.by_name.pop(bell.name)

    def pass_to(self, time):
        # The names of the bells whose due came, in the order of the wait.
        self.now = time
        return [name for due, name in self.waits.due(time)]

"""A bell: what is its own, whoever keeps it."""


class Bell:
    def __init__(self, name, rule, weight, home, by_day):
        self.name = name
        # A rule of its own: what becomes of the one that was handed in changes no bell.
        self.rule = rule.twin()
        self.weight = weight
        self.home = home
        self.by_day = by_day
        self.number = 0
        # By the bell's own clock; None where the bell is over.
        self.stretch = self.rule.begin()
        # In time gone by; None where the bell does not wait.
        self.since = None
        self.until = None

    def lead(self, shift):
        # How far the bell's own clock is ahead of the time gone by.
        return shift if self.by_day else 0

    def is_over(self):
        return self.stretch is None

    def is_waiting(self):
        return self.since is not None

    def settle(self, at):
        self.stretch = self.rule.follow(self.number, at)
        self.number = self.number + 1

    def catch_up(self, shown):
        # Tells what is missed where the bell's own clock shows this.
        low = self.number
        last = self.stretch[1]
        if last > shown:
            return []
        place = self.rule.let_by(low, last, shown)
        self.number = place[0]
        self.stretch = place[1]
        return [("missed", self.name, low, self.number - 1)]

    def wait(self, now, shift):
        lead = self.lead(shift)
        self.since = max(self.stretch[0] - lead, now + 1)
        self.until = self.stretch[1] - lead

    def rest(self):
        self.since = None
        self.until = None

    def move(self, first, last):
        self.stretch = (first, last)

    def about(self):
        return (self.number, self.stretch[0], self.stretch[1])

"""Groups within groups, each with a mark of its own that makes it and all beneath it sleep."""

from wakefew.errors import NoGroup, TooDeep, Twice

MOST_DEPTH = 8


class Groups:
    def __init__(self):
        self.above_of = {}
        self.marks = {}

    def add(self, name, above=None):
        if name in self.above_of:
            raise Twice(name)
        if above is not None:
            self.check_stands(above)
            if self.depth_of(above) >= MOST_DEPTH:
                raise TooDeep(name)
        self.above_of[name] = above

    def has(self, name):
        return name in self.above_of

    def sleep(self, name):
        ahead = self.awake_within(name)
        self.marks[name] = True
        # Beneath a mark nothing is awake, so all that were fell asleep.
        return ahead

    def wake(self, name):
        ahead = self.awake_within(name)
        self.unmark(name)
        return [other for other in self.awake_within(name) if other not in ahead]

    def end(self, name):
        gone = self.within(name)
        for other in gone:
            self.unmark(other)
            self.above_of.pop(other)
        return gone

    def awake(self, name):
        return not any([self.marked(other) for other in self.chain(name)])

    def marked(self, name):
        self.check_stands(name)
        return name in self.marks

    def chain(self, name):
        self.check_stands(name)
        names = []
        while name is not None:
            names.append(name)
            name = self.above_of[name]
        return names

    def within(self, name):
        self.check_stands(name)
        return sorted([other for other in self.above_of if name in self.chain(other)])

    def all_of(self):
        return sorted(self.above_of, key=lambda name: (self.depth_of(name), name))

    def check_stands(self, name):
        if name not in self.above_of:
            raise NoGroup(name)

    def depth_of(self, name):
        return len(self.chain(name))

    def awake_within(self, name):
        return [other for other in self.within(name) if self.awake(other)]

    def unmark(self, name):
        if name in self.marks:
            self.marks.pop(name)

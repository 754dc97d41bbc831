"""The refusals: one class for each, so that each can be taken by name."""


class WakeError(ValueError):
    pass


class NoRule(WakeError):
    pass


class NoStretch(WakeError):
    pass


class NoRounds(WakeError):
    pass


class Past(WakeError):
    pass


class NoWeight(WakeError):
    pass


class NoTime(WakeError):
    pass


class NoText(WakeError):
    pass


class NoRow(WakeError):
    pass


class Twice(WakeError):
    def __init__(self, name):
        WakeError.__init__(self, f"{name!r} is there already")
        self.name = name


class NoBell(WakeError):
    def __init__(self, name):
        WakeError.__init__(self, f"there is no bell {name!r}")
        self.name = name


class NoGroup(WakeError):
    def __init__(self, name):
        WakeError.__init__(self, f"there is no group {name!r}")
        self.name = name


class TooDeep(WakeError):
    def __init__(self, name):
        WakeError.__init__(self, f"the group {name!r} would lie too deep")
        self.name = name

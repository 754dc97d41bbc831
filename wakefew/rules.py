"""The rules: in which stretches a bell must be rung, again and again."""

from wakefew.errors import NoRule
from wakefew.wholes import figures, is_whole


def check_from(number, least, what):
    # The words name no number: Python may refuse to write a great one.
    if not is_whole(number) or number < least:
        raise NoRule(f"{what} is no whole number, or too small")


def spans_over(end, span, now):
    # Counted, not walked: now may lie any number of spans ahead.
    return max(0, (now - end) // span + 1)


def word_of(number):
    return "ever" if number is None else figures(number)


def row_of(kind, numbers):
    return " ".join([kind] + [word_of(number) for number in numbers])


class Rule:
    def __init__(self, many):
        if many is not None:
            check_from(many, 1, "many")
        self.many = many

    def begin(self):
        raise NotImplementedError("each kind of rule has its own")

    def follow(self, number, settled):
        raise NotImplementedError("each kind of rule has its own")

    def let_by(self, number, last, now):
        raise NotImplementedError("each kind of rule has its own")

    def words(self):
        raise NotImplementedError("each kind of rule has its own")

    def twin(self):
        raise NotImplementedError("each kind of rule has its own")

    def place_of(self, number, stretch):
        if self.many is not None and number >= self.many:
            return (self.many, None)
        return (number, stretch)


class Once(Rule):
    def __init__(self, first, last=None):
        check_from(first, 0, "first")
        if last is None:
            last = first
        check_from(last, first, "last")
        Rule.__init__(self, 1)
        self.first = first
        self.last = last

    def begin(self):
        return (self.first, self.last)

    def follow(self, number, settled):
        return None

    def let_by(self, number, last, now):
        return (1, None)

    def words(self):
        return row_of("once", [self.first, self.last])

    def twin(self):
        return Once(self.first, self.last)


class Each(Rule):
    def __init__(self, start, step, wide=0, many=None):
        check_from(start, 0, "start")
        check_from(step, 1, "step")
        check_from(wide, 0, "wide")
        if wide >= step:
            raise NoRule("wide is not below step")
        Rule.__init__(self, many)
        self.start = start
        self.step = step
        self.wide = wide

    def stretch_of(self, number):
        first = self.start + number * self.step
        return (first, first + self.wide)

    def begin(self):
        return self.stretch_of(0)

    def follow(self, number, settled):
        return self.place_of(number + 1, self.stretch_of(number + 1))[1]

    def let_by(self, number, last, now):
        end = self.stretch_of(number + 1)[1]
        found = number + 1 + spans_over(end, self.step, now)
        return self.place_of(found, self.stretch_of(found))

    def words(self):
        return row_of("each", [self.start, self.step, self.wide, self.many])

    def twin(self):
        return Each(self.start, self.step, self.wide, self.many)


class Behind(Rule):
    def __init__(self, start, gap, wide=0, many=None):
        check_from(start, 0, "start")
        check_from(gap, 1, "gap")
        check_from(wide, 0, "wide")
        Rule.__init__(self, many)
        self.start = start
        self.gap = gap
        self.wide = wide

    def gap_ahead(self, number):
        return self.gap

    def begin(self):
        return (self.start, self.start + self.wide)

    def follow(self, number, settled):
        first = settled + self.gap_ahead(number + 1)
        return self.place_of(number + 1, (first, first + self.wide))[1]

    def let_by(self, number, last, now):
        return self.leap(number + 1, last + self.gap + self.wide, self.gap, now)

    def leap(self, number, end, gap, now):
        # From time number on, which ends at end, all gaps must be alike, unless end is above now.
        span = gap + self.wide
        steps = spans_over(end, span, now)
        end = end + steps * span
        return self.place_of(number + steps, (end - self.wide, end))

    def words(self):
        return row_of("behind", [self.start, self.gap, self.wide, self.many])

    def twin(self):
        return Behind(self.start, self.gap, self.wide, self.many)


class Slowing(Behind):
    def __init__(self, start, gap, most, wide=0, many=None):
        Behind.__init__(self, start, gap, wide, many)
        check_from(most, gap, "most")
        self.most = most

    def gap_ahead(self, number):
        # The doubling ends at most, so that a great number costs no more steps than most has bits.
        gap = self.gap
        left = number - 1
        while left > 0 and gap < self.most:
            gap = gap * 2
            left = left - 1
        return min(gap, self.most)

    def let_by(self, number, last, now):
        number = number + 1
        gap = self.gap_ahead(number)
        end = last + gap + self.wide
        while end <= now and gap < self.most:
            number = number + 1
            gap = min(gap * 2, self.most)
            end = end + gap + self.wide
        return self.leap(number, end, gap, now)

    def words(self):
        return row_of("slowing", [self.start, self.gap, self.most, self.wide, self.many])

    def twin(self):
        return Slowing(self.start, self.gap, self.most, self.wide, self.many)

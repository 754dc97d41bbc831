"""The desk: a keeper that is told rows of words and answers with texts."""

from wakefew.kept import come_up, kept
from wakefew.keeper import Keeper
from wakefew.orders import read_order
from wakefew.rations import ration
from wakefew.wholes import figures, is_whole
from wakefew.words import make_rule

QUESTIONS = ("ahead", "known", "bells", "about", "clock", "keep")


def row_of(things):
    return " ".join([figures(thing) if is_whole(thing) else thing for thing in things])


class Desk:
    def __init__(self, rounds=None):
        self.keeper = Keeper(rounds)

    def say(self, row):
        order = read_order(row)
        if order[0] in QUESTIONS:
            return self.answer(order[0], order[1:])
        return [row_of(entry) for entry in self.carry_out(order[0], order[1:])]

    def answer(self, word, things):
        keeper = self.keeper
        if word == "ahead":
            wakings, apart = keeper.ahead()
            return [row_of(["wake", time, name]) for time, name in zip(wakings, apart)]
        if word == "known":
            return [row_of(claim) for claim in keeper.known()]
        if word == "bells":
            return keeper.bells()
        if word == "about":
            return [row_of(keeper.about(things[0]))]
        if word == "clock":
            return [row_of([keeper.now, keeper.now + keeper.shift])]
        return kept(keeper).split("\n")

    def carry_out(self, word, things):
        if word in ("bell", "move", "off", "take", "let"):
            return self.do_to_bell(word, things)
        if word in ("group", "sleep", "wake", "end"):
            return self.do_to_group(word, things)
        if word == "turn":
            return self.keeper.turn(things[0])
        if word == "ration":
            return ration(self.keeper, things[0])
        if word == "up":
            return self.come_up_again(things[0])
        if len(things) == 1:
            return self.keeper.go(things[0])
        return self.keeper.go(things[0], things[1])

    def do_to_bell(self, word, things):
        if word == "bell":
            name, weight, home, by_day, rule = things
            return self.keeper.add(name, make_rule(rule[0], rule[1]), weight, home, by_day)
        if word == "move":
            return self.keeper.move(things[0], things[1], things[2])
        if word == "off":
            return self.keeper.put_off(things[0], things[1])
        if word == "take":
            return self.keeper.take(things[0])
        return self.keeper.let_by(things[0])

    def do_to_group(self, word, things):
        if word == "group":
            return self.keeper.group(things[0], things[1])
        if word == "sleep":
            return self.keeper.sleep(things[0])
        if word == "wake":
            return self.keeper.wake(things[0])
        return self.keeper.end(things[0])

    def come_up_again(self, pause):
        keeper, entries = come_up(kept(self.keeper), pause)
        self.keeper = keeper
        return entries

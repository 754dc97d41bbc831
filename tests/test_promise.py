"""Point 4 over rows of many deeds, and points 32 to 42 held against a plain model of their words."""

import random
import unittest

from helper import ROUNDS, Case, done, some_deed, state
from wakefew.keeper import Keeper
from wakefew.plan import fewest
from wakefew.prices import gave_way
from wakefew.thin import thin


class Model:
    """A keeper by the words: no wait, no let_by; each time is walked by follow alone."""

    def __init__(self, now):
        self.now, self.shift, self.above, self.marks, self.held = now, 0, {}, set(), {}

    def chain(self, name):
        return [] if name is None else [name] + self.chain(self.above[name])

    def awake(self, name):
        return not self.marks & set(self.chain(self.held[name]["home"]))

    def lead(self, name):
        return self.shift if self.held[name]["by_day"] else 0

    def lay(self, name, told):
        bell = self.held[name]
        bell["wait"] = None
        if not self.awake(name):
            return
        low = bell["number"]
        while bell["stretch"] is not None and bell["stretch"][1] <= self.now + self.lead(name):
            self.follow(bell, bell["stretch"][1])
        if bell["number"] > low:
            told.append(("missed", name, low, bell["number"] - 1))
        if bell["stretch"] is None:
            self.held.pop(name)
            told.append(("over", name))
            return
        first, last = bell["stretch"]
        bell["wait"] = (max(first - self.lead(name), self.now + 1), last - self.lead(name))

    def follow(self, bell, at):
        bell["stretch"] = bell["rule"].follow(bell["number"], at)
        bell["number"] += 1

    def settle(self, name, at, told):
        self.follow(self.held[name], at)
        if self.held[name]["stretch"] is None:
            self.held.pop(name)
            told.append(("over", name))
        else:
            self.lay(name, told)

    def add(self, name, rule, weight, home, by_day):
        if name in self.held:
            return "Twice", name
        if home is not None and home not in self.above:
            return "NoGroup", home
        if weight < 1:
            return "NoWeight", None
        self.held[name] = {"rule": rule, "weight": weight, "home": home, "by_day": by_day, "number": 0,
                           "stretch": rule.begin(), "wait": None}
        told = []
        self.lay(name, told)
        return told

    def move(self, name, first, last):
        if name not in self.held:
            return "NoBell", name
        if first < 0 or last < first:
            return "NoStretch", None
        self.held[name]["stretch"] = (first, last)
        told = []
        self.lay(name, told)
        return told

    def put_off(self, name, by):
        if name not in self.held:
            return "NoBell", name
        first, last = self.held[name]["stretch"]
        return self.move(name, first + by, last + by)

    def let_by(self, name):
        if name not in self.held:
            return "NoBell", name
        told = [("gave", name, self.held[name]["number"])]
        self.settle(name, self.held[name]["stretch"][1], told)
        return told

    def take(self, name):
        if name not in self.held:
            return "NoBell", name
        return [("dropped", name, self.held.pop(name)["number"])]

    def group(self, name, above):
        if name in self.above:
            return "Twice", name
        if above is not None and above not in self.above:
            return "NoGroup", above
        if len(self.chain(above)) == 8:
            return "TooDeep", name
        self.above[name] = above
        return []

    def sleep(self, name):
        if name not in self.above:
            return "NoGroup", name
        self.marks.add(name)
        for bell in self.held:
            if not self.awake(bell):
                self.held[bell]["wait"] = None
        return []

    def wake(self, name):
        if name not in self.above:
            return "NoGroup", name
        ahead = [bell for bell in self.held if self.awake(bell)]
        self.marks.discard(name)
        told = []
        for bell in sorted(self.held):
            if bell not in ahead and self.awake(bell):
                self.lay(bell, told)
        return told

    def end(self, name):
        if name not in self.above:
            return "NoGroup", name
        gone = [group for group in self.above if name in self.chain(group)]
        told = []
        for bell in sorted(self.held):
            if self.held[bell]["home"] in gone:
                told.append(("dropped", bell, self.held.pop(bell)["number"]))
        for group in gone:
            self.above.pop(group)
            self.marks.discard(group)
        return told

    def turn(self, by):
        if self.now + self.shift + by < 0:
            return "NoTime", None
        self.shift += by
        told = []
        for bell in sorted(self.held):
            if self.held[bell]["by_day"]:
                self.lay(bell, told)
        return told

    def idle(self, by):
        if by < 0:
            return "NoTime", None
        self.now += by
        told = []
        for bell in sorted(self.held):
            wait = self.held[bell]["wait"]
            if wait is not None and wait[1] <= self.now:
                self.lay(bell, told)
        return told

    def go(self, to, most=60):
        if to < self.now:
            return "Past", None
        told = []
        for turn in range(most):
            waits = [(bell["wait"][1], name) for name, bell in self.held.items() if bell["wait"] is not None]
            if not waits or min(waits)[0] > to:
                self.now = to
                return told
            self.now, name = min(waits)
            told.append(("woke", self.now, name))
            ringing = [name for name, bell in self.held.items() if bell["wait"] and bell["wait"][0] <= self.now]
            for name in sorted(ringing, key=lambda name: (-self.held[name]["weight"], name)):
                bell = self.held[name]
                told.append(("rang", name, bell["number"], self.now, bell["wait"][0], bell["wait"][1]))
                self.settle(name, self.now + self.lead(name), told)
        return told

    def ration(self, most):
        told = []
        for name in gave_way(thin(self.known(), most)[0], self.known()):
            told.extend(self.let_by(name))
        return told

    def known(self):
        return [(name, *self.held[name]["wait"], self.held[name]["weight"]) for name in sorted(self.held)
                if self.held[name]["wait"] is not None]

    def state(self):
        names = sorted(self.held)
        abouts = [(self.held[name]["number"], *self.held[name]["stretch"]) for name in names]
        return self.now, self.shift, names, abouts, self.known(), fewest([claim[:3] for claim in self.known()])


class AgainstTheModel(Case):
    def test_many_deeds(self):
        for seed in range(120):
            chance = random.Random(seed)
            now = chance.choice([0, 0, 7, 300])
            keeper, model = Keeper(chance.choice([None, [4, 3], [10]]), now), Model(now)
            for turn in range(120):
                deed = some_deed(chance, keeper)
                wanted = getattr(model, deed[0])(*deed[1])
                self.assertEqual(done(keeper, deed), wanted, (seed, turn, deed))
                self.assertEqual(state(keeper), model.state(), (seed, turn, deed))


class ThePromise(Case):
    def run_deeds(self, seed, rounds=None):
        """All entries of a row of deeds; the refused ones change nothing."""
        chance = random.Random(seed)
        keeper = Keeper(rounds)
        entries = []
        for turn in range(200):
            held = state(keeper)
            deed = some_deed(chance, keeper)
            told = done(keeper, deed)
            if isinstance(told, tuple):
                self.assertEqual(state(keeper), held)
            else:
                entries.extend(told)
            self.assertEqual(state(keeper), state(keeper))
        return entries

    def test_the_times_come_out_in_their_order_each_just_once(self):
        kinds = set()
        for seed in range(60):
            numbers = {}
            for entry in self.run_deeds(seed):
                kinds.add(entry[0])
                if entry[0] in ("rang", "gave", "dropped", "missed"):
                    low, high = entry[2], entry[3] if entry[0] == "missed" else entry[2]
                    self.assertEqual(low, numbers.get(entry[1], 0))
                    self.assertLessEqual(low, high)
                    numbers[entry[1]] = high + 1
                if entry[0] in ("over", "dropped"):
                    numbers.pop(entry[1])
        self.assertEqual(kinds, {"woke", "rang", "missed", "gave", "dropped", "over"})

    def test_the_wakings_are_the_fewest(self):
        rang = 0
        for seed in range(100):
            claims, wakings, apart = [], [], []
            for entry in self.run_deeds(seed, [7, 5]):
                if entry[0] == "woke":
                    wakings.append(entry[1])
                    apart.append(entry[2])
                if entry[0] == "rang":
                    time, since, due = entry[3:]
                    self.assertTrue(since <= time <= due)
                    self.assertEqual(time, wakings[-1])
                    claims.append((f"{entry[1]} {len(claims)}", since, due))
            self.assertEqual(fewest(claims)[0], wakings)
            self.assertEqual(wakings, sorted(set(wakings)))
            rang += len(claims)
        self.assertGreater(rang, 1000)

    def test_each_rang_within_its_stretch_by_its_own_clock(self):
        for seed in range(60):
            chance = random.Random(seed)
            keeper = Keeper()
            by_day = {}
            for turn in range(150):
                deed = some_deed(chance, keeper)
                abouts = {name: keeper.about(name) for name in keeper.bells()}
                if deed[0] == "go":
                    deed = "go", (deed[1][0], 1)
                told = done(keeper, deed)
                if isinstance(told, tuple):
                    continue
                if deed[0] == "add":
                    by_day[deed[1][0]] = deed[1][4]
                for entry in told:
                    if entry[0] == "rang":
                        number, first, last = abouts[entry[1]]
                        shown = entry[3] + (keeper.shift if by_day[entry[1]] else 0)
                        self.assertEqual(entry[2], number)
                        self.assertTrue(first <= shown <= last)

    def test_a_row_and_wheels_answer_the_same(self):
        for seed in range(25):
            chance = random.Random(seed)
            keepers = [Keeper()] + [Keeper(list(rounds)) for rounds in ROUNDS]
            for turn in range(150):
                deed = some_deed(chance, keepers[0])
                told = [done(keeper, deed) for keeper in keepers]
                self.assertEqual(told, [told[0]] * len(keepers))
                states = [state(keeper) for keeper in keepers]
                self.assertEqual(states, [states[0]] * len(keepers))

    def test_no_deeds_hang_on_one_another_but_by_the_keeper(self):
        for seed in range(5):
            self.assertEqual(self.run_deeds(seed), self.run_deeds(seed))


if __name__ == "__main__":
    unittest.main()

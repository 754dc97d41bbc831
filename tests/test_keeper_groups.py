"""Points 3 and 39 to 42: a keeper's groups, the day's clock turned, time that goes by, the questions, the ration."""

import random
import unittest

from helper import GREAT, Case, name_of
from wakefew.errors import NoBell, NoGroup, NoTime, TooDeep, Twice
from wakefew.keeper import Keeper
from wakefew.plan import fewest
from wakefew.prices import gave_way, weight_of
from wakefew.rations import ration
from wakefew.rules import Behind, Each, Once
from wakefew.thin import thin


def house():
    """top holds left and right, left holds leaf; a bell in each, and one in none."""
    keeper = Keeper()
    for name, above in (("top", None), ("left", "top"), ("right", "top"), ("leaf", "left")):
        keeper.group(name, above)
    for name, home in (("e", "top"), ("b", "left"), ("d", "right"), ("a", "leaf"), ("c", None)):
        keeper.add(name, Each(5, 10, 2), 1, home)
    return keeper


def waiting(keeper):
    return [name for name, since, due, weight in keeper.known()]


class Groups(Case):
    def test_group_tells_nothing(self):
        keeper = Keeper()
        self.assertEqual((keeper.group("a"), keeper.group(name="b", above="a")), ([], []))
        self.assertEqual((keeper.sleep("a"), keeper.sleep("a"), keeper.wake("a")), ([], [], []))

    def test_refused_as_those_of_stage_3(self):
        keeper = Keeper()
        above = None
        for name in "abcdefgh":
            keeper.group(name, above)
            above = name
        self.refuse(Twice, lambda: keeper.group("a", "none"), "a")
        self.refuse(NoGroup, lambda: keeper.group("i", "none"), "none")
        self.refuse(TooDeep, lambda: keeper.group("i", "h"), "i")
        keeper.add("bell", Once(5))
        for deed in (keeper.sleep, keeper.wake, keeper.end):
            for name in ("none", "bell"):
                self.refuse(NoGroup, lambda: deed(name), name)
        self.assertEqual(waiting(keeper), ["bell"])

    def test_asleep_they_do_not_wait(self):
        for name, left in (("top", "c"), ("left", "cde"), ("leaf", "bcde"), ("right", "abce")):
            keeper = house()
            self.assertEqual(keeper.sleep(name=name), [])
            self.assertEqual((waiting(keeper), keeper.bells()), (list(left), list("abcde")))
            self.assertEqual([entry[1] for entry in keeper.go(7) if entry[0] == "rang"], list(left))

    def test_woken(self):
        keeper = house()
        keeper.sleep("top")
        keeper.idle(28)
        self.assertEqual(keeper.wake(name="top"), [("missed", name, 0, 2) for name in "abde"])
        self.assertEqual(keeper.known(), [(name, 35, 37, 1) for name in "abcde"])

    def test_one_marked_itself_stays_asleep(self):
        keeper = house()
        keeper.sleep("left")
        keeper.sleep("top")
        keeper.idle(8)
        self.assertEqual(keeper.wake("top"), [("missed", "d", 0, 0), ("missed", "e", 0, 0)])
        self.assertEqual(waiting(keeper), ["c", "d", "e"])
        self.assertEqual(keeper.wake("leaf"), [])
        self.assertEqual(keeper.wake("left"), [("missed", "a", 0, 0), ("missed", "b", 0, 0)])

    def test_woken_where_it_is_awake_lays_nothing_anew(self):
        keeper = house()
        keeper.go(6)
        self.assertEqual(keeper.wake("top"), [])
        self.assertEqual(keeper.known(), [(name, 5, 7, 1) for name in "abcde"])

    def test_asleep_and_woken_at_once_is_laid_anew(self):
        keeper = house()
        keeper.go(6)
        keeper.sleep("left")
        self.assertEqual(keeper.wake("left"), [])
        self.assertEqual(keeper.known(), [("a", 7, 7, 1), ("b", 7, 7, 1)] + [(name, 5, 7, 1) for name in "cde"])

    def test_end_drops_the_bells_beneath(self):
        keeper = house()
        keeper.go(7)
        keeper.sleep("leaf")
        self.assertEqual(keeper.end(name="left"), [("dropped", "a", 1), ("dropped", "b", 1)])
        self.assertEqual((keeper.bells(), waiting(keeper)), (list("cde"), list("cde")))
        self.refuse(NoGroup, lambda: keeper.add("a", Once(50), 1, "leaf"), "leaf")
        keeper.group("leaf")
        self.assertEqual(keeper.add("a", Once(50), 1, "leaf"), [])
        self.assertEqual(waiting(keeper), list("acde"))
        self.assertEqual(keeper.end("top"), [("dropped", "d", 1), ("dropped", "e", 1)])

    def test_end_of_one_without_bells(self):
        keeper = house()
        keeper.group("more", "leaf")
        self.assertEqual(keeper.end("more"), [])
        self.assertEqual(keeper.bells(), list("abcde"))


class Turning(Case):
    def test_forward(self):
        keeper = Keeper()
        keeper.add("day", Each(5, 10, 2), 1, None, True)
        keeper.add("gone", Each(5, 10, 2))
        self.assertEqual(keeper.turn(3), [])
        self.assertEqual((keeper.shift, keeper.now), (3, 0))
        self.assertEqual(keeper.known(), [("day", 2, 4, 1), ("gone", 5, 7, 1)])
        self.assertEqual(keeper.turn(by=25), [("missed", "day", 0, 2)])
        self.assertEqual((keeper.shift, keeper.about("day")), (28, (3, 35, 37)))
        self.assertEqual(keeper.known(), [("day", 7, 9, 1), ("gone", 5, 7, 1)])

    def test_back(self):
        keeper = Keeper(None, 20)
        keeper.add("day", Each(20, 10, 2), 1, None, True)
        self.assertEqual(keeper.turn(-20), [])
        self.assertEqual((keeper.shift, keeper.known()), (-20, [("day", 40, 42, 1)]))

    def test_times_do_not_come_again(self):
        keeper = Keeper()
        keeper.add("day", Each(5, 10, 2), 1, None, True)
        keeper.go(27)
        self.assertEqual(keeper.about("day"), (3, 35, 37))
        keeper.turn(-27)
        self.assertEqual((keeper.about("day"), keeper.known()), ((3, 35, 37), [("day", 62, 64, 1)]))

    def test_over_and_sorted_by_name(self):
        keeper = Keeper()
        keeper.add("c", Once(5), 1, None, True)
        keeper.add("a", Each(5, 10), 1, None, True)
        keeper.add("b", Once(5))
        self.assertEqual(keeper.turn(9), [("missed", "a", 0, 0), ("missed", "c", 0, 0), ("over", "c")])
        self.assertEqual(keeper.bells(), ["a", "b"])

    def test_by_nought_they_are_laid_anew(self):
        keeper = Keeper()
        keeper.add("day", Once(2, 30), 1, None, True)
        keeper.add("gone", Once(2, 30))
        keeper.go(10)
        self.assertEqual(keeper.turn(0), [])
        self.assertEqual(keeper.known(), [("day", 11, 30, 1), ("gone", 2, 30, 1)])

    def test_below_nought(self):
        keeper = Keeper(None, 10)
        keeper.add("day", Once(12, 30), 1, None, True)
        for by in (-11, -12, -GREAT):
            self.refuse(NoTime, lambda: keeper.turn(by))
        self.assertEqual((keeper.shift, keeper.known()), (0, [("day", 12, 30, 1)]))
        keeper.turn(-10)
        self.assertEqual(keeper.shift, -10)
        self.refuse(NoTime, lambda: keeper.turn(-1))
        keeper.idle(1)
        self.assertEqual((keeper.turn(-1), keeper.shift), ([], -11))

    def test_asleep(self):
        keeper = Keeper()
        keeper.group("night")
        keeper.add("day", Each(5, 10, 2), 1, "night", True)
        keeper.sleep("night")
        self.assertEqual(keeper.turn(100), [])
        self.assertEqual(keeper.about("day"), (0, 5, 7))
        self.assertEqual(keeper.turn(-90), [])
        self.assertEqual(keeper.wake("night"), [("missed", "day", 0, 0)])
        self.assertEqual(keeper.known(), [("day", 5, 7, 1)])


class Idling(Case):
    def test_over_the_due_of_several(self):
        keeper = Keeper()
        keeper.add("c", Each(5, 10, 2))
        keeper.add("a", Each(3, 20, 1))
        keeper.add("b", Once(9, 12))
        keeper.add("d", Once(4, 90))
        keeper.add("e", Once(80, 90))
        self.assertEqual(keeper.idle(12), [
            ("missed", "a", 0, 0), ("missed", "b", 0, 0), ("over", "b"), ("missed", "c", 0, 0)])
        self.assertEqual(keeper.now, 12)
        self.assertEqual(keeper.known(), [("a", 23, 24, 1), ("c", 15, 17, 1), ("d", 4, 90, 1), ("e", 80, 90, 1)])

    def test_nobody_wakes(self):
        keeper = Keeper()
        keeper.add("a", Each(5, 10, 2, 4))
        self.assertEqual(keeper.idle(by=1000), [("missed", "a", 0, 3), ("over", "a")])
        self.assertEqual((keeper.now, keeper.go(2000)), (1000, []))

    def test_by_nought(self):
        keeper = Keeper()
        keeper.add("a", Once(0, 9))
        keeper.go(4)
        self.assertEqual((keeper.idle(0), keeper.now, keeper.known()), ([], 4, [("a", 1, 9, 1)]))

    def test_a_due_at_now_is_by(self):
        keeper = Keeper()
        keeper.add("a", Each(5, 10, 2))
        self.assertEqual((keeper.idle(6), keeper.idle(1)), ([], [("missed", "a", 0, 0)]))

    def test_below_nought(self):
        keeper = Keeper(None, 9)
        keeper.add("a", Once(10))
        for by in (-1, -9, -GREAT):
            self.refuse(NoTime, lambda: keeper.idle(by))
        self.assertEqual((keeper.now, keeper.known()), (9, [("a", 10, 10, 1)]))

    def test_by_the_days_clock(self):
        keeper = Keeper()
        keeper.turn(100)
        keeper.add("a", Behind(105, 10, 2), 1, None, True)
        self.assertEqual(keeper.idle(8), [("missed", "a", 0, 0)])
        self.assertEqual((keeper.about("a"), keeper.known()), ((1, 117, 119), [("a", 17, 19, 1)]))

    def test_asleep_nothing_is_missed(self):
        keeper = house()
        keeper.sleep("top")
        self.assertEqual(keeper.idle(50), [("missed", "c", 0, 4)])
        self.assertEqual(keeper.about("a"), (0, 5, 7))

    def test_far_ahead_at_once(self):
        self.at_once()
        for rounds in (None, [60, 60, 24]):
            keeper = Keeper(rounds)
            keeper.add("a", Each(1, 1))
            keeper.add("b", Behind(0, 7, 3))
            self.assertEqual(keeper.idle(GREAT), [("missed", "a", 0, GREAT - 1), ("missed", "b", 0, 10 ** 39 - 1)])


class Questions(Case):
    def test_each_of_them(self):
        keeper = house()
        keeper.turn(2)
        keeper.add("aa", Once(3, 6), 9, None, True)
        keeper.sleep("right")
        self.assertEqual(keeper.bells(), ["a", "aa", "b", "c", "d", "e"])
        self.assertEqual((keeper.about("d"), keeper.about(name="aa")), ((0, 5, 7), (0, 3, 6)))
        known = [("a", 5, 7, 1), ("aa", 1, 4, 9), ("b", 5, 7, 1), ("c", 5, 7, 1), ("e", 5, 7, 1)]
        self.assertEqual(keeper.known(), known)
        self.assertEqual(keeper.ahead(), ([4, 7], ["aa", "a"]))
        self.assertEqual(keeper.ahead(), fewest([claim[:3] for claim in known]))
        self.refuse(NoBell, lambda: keeper.about("none"), "none")
        self.refuse(NoBell, lambda: keeper.about("top"), "top")

    def test_asked_twice_and_changed_by_the_asker(self):
        keeper = house()

        def answers():
            return [keeper.bells(), keeper.known(), keeper.ahead()[0], keeper.ahead()[1], keeper.about("a")]

        held, told = answers(), answers()
        self.assertEqual(held, told)
        for thing in told[:4]:
            thing.clear()
        self.assertEqual(answers(), held)
        keeper.add("f", Once(90)).append("x")
        keeper.go(7).clear()
        self.assertEqual(held[0], list("abcde"))
        self.assertEqual(held[1], [(name, 5, 7, 1) for name in "abcde"])

    def test_entries_are_the_askers_own(self):
        keeper = house()
        lists = [keeper.turn(0), keeper.idle(8), keeper.let_by("a"), keeper.take("b"), keeper.sleep("top"),
                 keeper.wake("top"), keeper.group("new"), keeper.go(9), ration(keeper, 9)]
        for told in lists:
            told.append("x")
        self.assertEqual([keeper.turn(0), keeper.sleep("top"), keeper.wake("top"), keeper.go(9)], [[], [], [], []])

    def test_sixty_bells(self):
        keeper = Keeper([10, 6])
        for place in range(60):
            keeper.group(name_of(place), None if place % 8 == 0 else name_of(place - 1))
            keeper.add(name_of(place), Each(place, 60, 59), 1, name_of(place))
        self.assertEqual(len(keeper.known()), 60)
        told = keeper.go(59)
        self.assertEqual(told[0], ("woke", 59, name_of(0)))
        self.assertEqual([entry[1] for entry in told if entry[0] == "rang"], [name_of(place) for place in range(60)])


class Rations(Case):
    def some_keeper(self, seed):
        chance = random.Random(seed)
        keeper = Keeper(None, 5)
        keeper.group("night")
        for place in range(chance.randint(0, 14)):
            first, weight = chance.randint(0, 50), chance.randint(1, 9)
            rule = chance.choice([Once(first + 6, first + 9), Each(first, 60, 20), Behind(first, 9, 9, 2)])
            keeper.add(name_of(place), rule, weight, chance.choice([None, None, "night"]))
        keeper.sleep("night")
        return keeper

    def test_held_against_thin(self):
        for seed in range(40):
            for most in (0, 1, 2, 3, 14, 60, GREAT):
                keeper, other = self.some_keeper(seed), self.some_keeper(seed)
                known = keeper.known()
                wakings = thin(known, most)[0]
                wanted = []
                for name in gave_way(wakings, known):
                    wanted.extend(other.let_by(name))
                self.assertEqual(ration(keeper, most), wanted)
                self.assertEqual((keeper.known(), keeper.bells()), (other.known(), other.bells()))
                given = [entry[1] for entry in wanted if entry[0] == "gave"]
                stayed = [claim for claim in known if claim[0] not in given]
                self.assertEqual(sum(claim[3] for claim in stayed), weight_of(wakings, known))
                self.assertLessEqual(len(fewest([claim[:3] for claim in stayed])[0]), most)

    def test_by_hand(self):
        keeper = Keeper()
        keeper.add("a", Each(1, 10, 3), 2)
        keeper.add("b", Each(3, 10, 3), 5)
        keeper.add("c", Once(5, 9), 5)
        self.assertEqual(ration(keeper=keeper, most=1), [("gave", "a", 0)])
        self.assertEqual(keeper.known(), [("a", 11, 14, 2), ("b", 3, 6, 5), ("c", 5, 9, 5)])
        self.assertEqual(ration(keeper, 9), [])
        self.assertEqual(ration(keeper, 0), [("gave", "a", 1), ("gave", "b", 0), ("gave", "c", 0), ("over", "c")])
        self.assertEqual(keeper.known(), [("a", 21, 24, 2), ("b", 13, 16, 5)])

    def test_as_many_as_there_are_bells(self):
        keeper = self.some_keeper(3)
        self.assertEqual(ration(keeper, len(keeper.bells())), [])

    def test_no_bells(self):
        for most in (0, 1, 60):
            self.assertEqual(ration(Keeper(), most), [])

    def test_bells_that_sleep_are_left_alone(self):
        keeper = house()
        keeper.sleep("top")
        self.assertEqual(ration(keeper, 0), [("gave", "c", 0)])
        self.assertEqual(keeper.about("a"), (0, 5, 7))


if __name__ == "__main__":
    unittest.main()

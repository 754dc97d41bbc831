"""Points 3 and 32 to 38: a keeper's clocks, how bells are laid, what is told, going on, and the deeds to one bell."""

import unittest

from helper import GREAT, Case, state
from wakefew.errors import NoBell, NoGroup, NoRounds, NoStretch, NoWeight, Past, Twice
from wakefew.keeper import Keeper
from wakefew.rules import Behind, Each, Once, Slowing


def asleep(name="night"):
    keeper = Keeper()
    keeper.group(name)
    keeper.sleep(name)
    return keeper


class Making(Case):
    def test_fields(self):
        keeper = Keeper()
        self.assertEqual((keeper.now, keeper.shift, keeper.bells(), keeper.known()), (0, 0, [], []))
        self.assertEqual((Keeper(None, 7).now, Keeper(now=7).now, Keeper([4, 3], 7).now), (7, 7, 7))
        self.assertEqual(Keeper(rounds=[4, 3], now=GREAT).shift, 0)

    def test_rounds_are_refused_as_those_of_wheels(self):
        for rounds in ([], [1], [61], [4] * 7, [True], ["4"], [4, None]):
            self.refuse(NoRounds, lambda: Keeper(rounds))
            self.refuse(NoRounds, lambda: Keeper(rounds, 9))

    def test_rounds_changed_behind_the_making(self):
        rounds = [4, 3]
        keeper = Keeper(rounds)
        keeper.add("a", Each(0, 50, 4))
        rounds[0] = 1
        rounds.clear()
        self.assertEqual([entry[0] for entry in keeper.go(120)], ["woke", "rang"] * 3)


class Laying(Case):
    def test_since_and_due_by_the_time_gone_by(self):
        keeper = Keeper(None, 10)
        keeper.add("ahead", Once(15, 20))
        keeper.add("begun", Once(3, 20))
        keeper.add("just", Once(11, 11))
        self.assertEqual(keeper.known(), [("ahead", 15, 20, 1), ("begun", 11, 20, 1), ("just", 11, 11, 1)])

    def test_since_and_due_by_the_days_clock(self):
        keeper = Keeper(None, 10)
        keeper.turn(100)
        keeper.add("ahead", Once(115, 120), 1, None, True)
        keeper.add("begun", Once(50, 120), 1, None, True)
        keeper.add("gone", Once(115, 120))
        self.assertEqual(keeper.known(), [("ahead", 15, 20, 1), ("begun", 11, 20, 1), ("gone", 115, 120, 1)])
        self.assertEqual(keeper.about("ahead"), (0, 115, 120))

    def test_by_the_days_clock_put_back(self):
        keeper = Keeper(None, 10)
        keeper.turn(-10)
        self.assertEqual(keeper.add("a", Once(0, 5), by_day=True), [])
        self.assertEqual(keeper.known(), [("a", 11, 15, 1)])

    def test_added_with_a_stretch_that_is_by(self):
        keeper = Keeper(None, 25)
        self.assertEqual(keeper.add("a", Each(0, 10, 3)), [("missed", "a", 0, 2)])
        self.assertEqual((keeper.about("a"), keeper.known()), ((3, 30, 33), [("a", 30, 33, 1)]))
        self.assertEqual(keeper.add("b", Each(5, 10, 5)), [("missed", "b", 0, 1)])
        self.assertEqual(keeper.known()[1], ("b", 26, 30, 1))

    def test_added_with_a_stretch_that_ends_just_now(self):
        keeper = Keeper(None, 25)
        self.assertEqual(keeper.add("a", Each(25, 10, 0)), [("missed", "a", 0, 0)])
        self.assertEqual(keeper.add("b", Each(26, 10, 0)), [])

    def test_over_as_it_is_added(self):
        keeper = Keeper(None, 25)
        self.assertEqual(keeper.add("a", Once(3, 25)), [("missed", "a", 0, 0), ("over", "a")])
        self.assertEqual((keeper.bells(), keeper.known()), ([], []))
        self.assertEqual(keeper.add("a", Behind(0, 3, 2, 4)), [("missed", "a", 0, 3), ("over", "a")])
        self.refuse(NoBell, lambda: keeper.about("a"), "a")
        self.assertEqual(keeper.add("a", Once(26)), [])

    def test_missed_by_slowing(self):
        keeper = Keeper(None, 20)
        self.assertEqual(keeper.add("a", Slowing(0, 2, 10, 1)), [("missed", "a", 0, 3)])
        self.assertEqual(keeper.about("a"), (4, 28, 29))

    def test_in_a_group_that_sleeps(self):
        keeper = asleep()
        self.assertEqual(keeper.add("a", Each(0, 10, 3), 1, "night"), [])
        self.assertEqual((keeper.known(), keeper.ahead(), keeper.bells()), ([], ([], []), ["a"]))
        self.assertEqual(keeper.go(25), [])
        self.assertEqual(keeper.about("a"), (0, 0, 3))
        self.assertEqual(keeper.wake("night"), [("missed", "a", 0, 2)])
        self.assertEqual((keeper.about("a"), keeper.known()), ((3, 30, 33), [("a", 30, 33, 1)]))

    def test_over_as_it_awakes(self):
        keeper = asleep()
        keeper.add("a", Once(5, 9), 1, "night")
        keeper.idle(9)
        self.assertEqual(keeper.bells(), ["a"])
        self.assertEqual(keeper.wake("night"), [("missed", "a", 0, 0), ("over", "a")])
        self.assertEqual(keeper.bells(), [])

    def test_several_laid_by_one_deed_bell_by_bell(self):
        keeper = asleep()
        for name, rule in (("c", Each(0, 10, 3)), ("a", Once(2)), ("b", Each(0, 100, 3)), ("d", Once(900))):
            keeper.add(name, rule, 1, "night")
        keeper.idle(25)
        self.assertEqual(keeper.wake("night"), [
            ("missed", "a", 0, 0), ("over", "a"), ("missed", "b", 0, 0), ("missed", "c", 0, 2)])
        self.assertEqual(keeper.bells(), ["b", "c", "d"])

    def test_a_rule_changed_behind_the_add(self):
        keeper = Keeper()
        rule = Each(0, 10, 3)
        keeper.add("a", rule)
        keeper.add("b", rule)
        rule.many, rule.step, rule.wide = 1, 1, 0
        keeper.go(3)
        self.assertEqual(keeper.known(), [("a", 10, 13, 1), ("b", 10, 13, 1)])
        self.assertEqual(rule.words(), "each 0 1 0 1")


class Going(Case):
    def test_one_bell(self):
        keeper = Keeper()
        keeper.add("tea", Each(3, 10, 6, 2))
        self.assertEqual(keeper.go(8), [])
        self.assertEqual(keeper.now, 8)
        self.assertEqual(keeper.go(9), [("woke", 9, "tea"), ("rang", "tea", 0, 9, 3, 9)])
        self.assertEqual((keeper.now, keeper.about("tea")), (9, (1, 13, 19)))
        self.assertEqual(keeper.go(100), [("woke", 19, "tea"), ("rang", "tea", 1, 19, 13, 19), ("over", "tea")])
        self.assertEqual((keeper.now, keeper.bells()), (100, []))

    def test_all_that_may_ring_do(self):
        keeper = Keeper()
        for name, first, last in (("a", 5, 20), ("b", 2, 9), ("c", 9, 30), ("d", 10, 30)):
            keeper.add(name, Once(first, last))
        self.assertEqual(keeper.ahead(), ([9, 30], ["b", "d"]))
        self.assertEqual(keeper.go(9), [
            ("woke", 9, "b"), ("rang", "a", 0, 9, 5, 20), ("over", "a"), ("rang", "b", 0, 9, 2, 9), ("over", "b"),
            ("rang", "c", 0, 9, 9, 30), ("over", "c")])
        self.assertEqual(keeper.bells(), ["d"])

    def test_the_order_is_by_weight_and_then_by_name(self):
        keeper = Keeper()
        for name, weight in (("d", 1), ("b", 7), ("a", 7), ("c", 9), ("e", 1)):
            keeper.add(name, Each(1, 50, 4), weight)
        told = keeper.go(5)
        self.assertEqual([entry[1] for entry in told if entry[0] == "rang"], ["c", "a", "b", "d", "e"])
        self.assertEqual(told[0], ("woke", 5, "a"))

    def test_the_bell_for_which_it_is_made(self):
        keeper = Keeper()
        keeper.add("a", Once(1, 9), 5)
        keeper.add("c", Once(1, 5), 9)
        keeper.add("b", Once(1, 5), 1)
        self.assertEqual(keeper.go(5)[0], ("woke", 5, "b"))

    def test_what_follows_each_ringing_stands_behind_it(self):
        keeper = Keeper()
        keeper.add("a", Each(0, 10, 3))
        keeper.move("a", 100, 105)
        keeper.add("b", Once(90, 103), 3)
        keeper.add("c", Each(0, 10, 3, 5))
        keeper.move("c", 100, 110)
        self.assertEqual(keeper.go(103), [
            ("woke", 103, "b"), ("rang", "b", 0, 103, 90, 103), ("over", "b"), ("rang", "a", 0, 103, 100, 105),
            ("missed", "a", 1, 10), ("rang", "c", 0, 103, 100, 110), ("missed", "c", 1, 4), ("over", "c")])
        self.assertEqual((keeper.bells(), keeper.about("a")), (["a"], (11, 110, 113)))

    def test_settled_by_its_own_clock(self):
        keeper = Keeper()
        keeper.turn(1000)
        keeper.add("day", Behind(1005, 10, 2), 1, None, True)
        keeper.add("gone", Behind(5, 10, 2))
        self.assertEqual(keeper.go(7), [("woke", 7, "day"), ("rang", "day", 0, 7, 5, 7), ("rang", "gone", 0, 7, 5, 7)])
        self.assertEqual((keeper.about("day"), keeper.about("gone")), ((1, 1017, 1019), (1, 17, 19)))
        self.assertEqual(keeper.known(), [("day", 17, 19, 1), ("gone", 17, 19, 1)])

    def test_one_that_rang_does_not_ring_again_at_the_same_waking(self):
        keeper = Keeper()
        keeper.add("a", Each(1, 1))
        self.assertEqual(keeper.go(3), [
            ("woke", 1, "a"), ("rang", "a", 0, 1, 1, 1), ("woke", 2, "a"), ("rang", "a", 1, 2, 2, 2),
            ("woke", 3, "a"), ("rang", "a", 2, 3, 3, 3)])

    def test_it_stops_behind_the_mostth_waking(self):
        keeper = Keeper()
        keeper.add("a", Each(5, 10, 0, 3))
        self.assertEqual(keeper.go(100, 2), [
            ("woke", 5, "a"), ("rang", "a", 0, 5, 5, 5), ("woke", 15, "a"), ("rang", "a", 1, 15, 15, 15)])
        self.assertEqual(keeper.now, 15)
        self.assertEqual(keeper.go(100, 1), [("woke", 25, "a"), ("rang", "a", 2, 25, 25, 25), ("over", "a")])
        self.assertEqual(keeper.now, 25)
        self.assertEqual((keeper.go(100, most=1), keeper.now), ([], 100))

    def test_most_not_reached(self):
        keeper = Keeper()
        keeper.add("a", Each(5, 10, 0, 3))
        self.assertEqual(len(keeper.go(to=100, most=4, deed=None)), 7)
        self.assertEqual(keeper.now, 100)

    def test_most_is_sixty_where_left_out(self):
        keeper = Keeper()
        keeper.add("a", Each(1, 1))
        self.assertEqual(len(keeper.go(1000)), 120)
        self.assertEqual(keeper.now, 60)
        self.assertEqual(len(keeper.go(119)), 118)
        self.assertEqual(keeper.now, 119)

    def test_past(self):
        keeper = Keeper(None, 10)
        keeper.add("a", Once(11, 15))
        held = state(keeper)
        for to in (9, 0, -1):
            self.refuse(Past, lambda: keeper.go(to))
        self.assertEqual(state(keeper), held)
        self.assertEqual(keeper.go(10), [])

    def test_far_ahead_at_once(self):
        self.at_once()
        for rounds in (None, [60] * 6):
            keeper = Keeper(rounds)
            keeper.add("a", Each(10 ** 39, 10 ** 38, 9, 3))
            keeper.add("b", Once(3, GREAT))
            self.assertEqual([entry[:3] for entry in keeper.go(GREAT)], [
                ("woke", 10 ** 39 + 9, "a"), ("rang", "a", 0), ("rang", "b", 0), ("over", "b"),
                ("woke", 11 * 10 ** 38 + 9, "a"), ("rang", "a", 1), ("woke", 12 * 10 ** 38 + 9, "a"), ("rang", "a", 2),
                ("over", "a")])


class WithADeed(Case):
    def test_what_it_is_handed(self):
        keeper = Keeper()
        keeper.turn(50)
        keeper.add("a", Each(55, 10, 2), 1, None, True)
        keeper.add("b", Each(5, 10, 4), 3)
        seen = []
        self.assertEqual(len(keeper.go(27, 60, lambda name, number, time: seen.append((name, number, time)))), 9)
        self.assertEqual(seen, [("b", 0, 7), ("a", 0, 7), ("b", 1, 17), ("a", 1, 17), ("b", 2, 27), ("a", 2, 27)])

    def test_true_and_none_change_nothing(self):
        told = []
        for answer in (None, True):
            keeper = Keeper()
            keeper.add("a", Each(5, 10, 2, 3))
            keeper.add("b", Each(6, 10, 2))
            told.append((keeper.go(100, 9, lambda name, number, time: answer), state(keeper)))
        keeper = Keeper()
        keeper.add("a", Each(5, 10, 2, 3))
        keeper.add("b", Each(6, 10, 2))
        self.assertEqual(told, [(keeper.go(100, 9), state(keeper))] * 2)

    def test_false_ends_the_bell_with_nothing_missed(self):
        keeper = Keeper()
        keeper.add("a", Each(0, 10, 3))
        keeper.add("b", Each(5, 10, 3))
        keeper.move("a", 100, 105)
        keeper.move("b", 100, 103)
        told = keeper.go(103, deed=lambda name, number, time: name != "a")
        self.assertEqual(told, [
            ("woke", 103, "b"), ("rang", "a", 0, 103, 100, 105), ("over", "a"), ("rang", "b", 0, 103, 100, 103),
            ("missed", "b", 1, 9)])
        self.assertEqual(keeper.bells(), ["b"])
        self.assertEqual(keeper.add("a", Once(200)), [])

    def test_it_is_called_ahead_of_what_follows(self):
        keeper = Keeper()
        keeper.add("a", Each(1, 5, 2))
        keeper.add("b", Each(1, 5, 2))
        numbers = []
        keeper.go(3, 60, lambda name, number, time: numbers.append((name, number)))
        self.assertEqual(numbers, [("a", 0), ("b", 0)])

    def test_no_ringing_no_call(self):
        keeper = Keeper()
        keeper.add("a", Once(50))
        calls = []
        keeper.go(49, 1, lambda name, number, time: calls.append(name))
        self.assertEqual(calls, [])


class Adding(Case):
    def test_the_order_of_refusals(self):
        keeper = Keeper()
        keeper.add("a", Once(5))
        held = state(keeper)
        self.refuse(Twice, lambda: keeper.add("a", Once(5), 0, "none"), "a")
        self.refuse(NoGroup, lambda: keeper.add("b", Once(5), 0, "none"), "none")
        for weight in (0, -1, -GREAT):
            self.refuse(NoWeight, lambda: keeper.add("b", Once(5), weight))
        self.assertEqual(state(keeper), held)

    def test_twice_also_of_one_that_sleeps(self):
        keeper = asleep()
        keeper.add("a", Once(5), 1, "night")
        self.refuse(Twice, lambda: keeper.add("a", Once(5)), "a")

    def test_with_the_name_of_a_group(self):
        keeper = Keeper()
        keeper.group("a")
        self.assertEqual(keeper.add("a", Once(5), 1, "a"), [])
        keeper.add("b", Once(5))
        self.assertEqual(keeper.group("b"), [])
        self.assertEqual(keeper.end("a"), [("dropped", "a", 0)])
        self.assertEqual((keeper.end("b"), keeper.bells()), ([], ["b"]))

    def test_defaults(self):
        keeper = Keeper()
        keeper.turn(7)
        keeper.add(name="a", rule=Once(5, 9))
        keeper.group("g")
        keeper.add(name="b", rule=Once(20, 30), weight=3, group="g", by_day=True)
        self.assertEqual(keeper.known(), [("a", 5, 9, 1), ("b", 13, 23, 3)])


class Moving(Case):
    def test_no_bell_first_of_all(self):
        keeper = Keeper()
        keeper.group("a")
        for deed in (lambda: keeper.move("a", -1, -2), lambda: keeper.move("a", 1, 2), lambda: keeper.put_off("a", -9),
                     lambda: keeper.let_by("a"), lambda: keeper.take("a"), lambda: keeper.about("a")):
            self.refuse(NoBell, deed, "a")

    def test_move(self):
        keeper = Keeper()
        keeper.add("a", Each(5, 10, 2))
        self.assertEqual(keeper.move("a", 20, 30), [])
        self.assertEqual((keeper.about("a"), keeper.known()), ((0, 20, 30), [("a", 20, 30, 1)]))
        self.assertEqual(keeper.go(30), [
            ("woke", 30, "a"), ("rang", "a", 0, 30, 20, 30), ("missed", "a", 1, 2)])
        self.assertEqual(keeper.about("a"), (3, 35, 37))

    def test_move_to_a_stretch_that_is_by(self):
        keeper = Keeper(None, 20)
        keeper.add("a", Each(50, 10, 2))
        keeper.add("b", Once(50))
        self.assertEqual(keeper.move("a", 0, 0), [("missed", "a", 0, 0)])
        self.assertEqual(keeper.about("a"), (1, 60, 62))
        self.assertEqual(keeper.move(name="b", first=3, last=20), [("missed", "b", 0, 0), ("over", "b")])

    def test_move_that_has_begun(self):
        keeper = Keeper(None, 20)
        keeper.add("a", Each(50, 10, 2))
        keeper.move("a", 3, 21)
        self.assertEqual(keeper.known(), [("a", 21, 21, 1)])

    def test_move_by_the_days_clock(self):
        keeper = Keeper()
        keeper.turn(100)
        keeper.add("a", Each(150, 10, 2), 1, None, True)
        keeper.move("a", 120, 130)
        self.assertEqual((keeper.about("a"), keeper.known()), ((0, 120, 130), [("a", 20, 30, 1)]))
        self.assertEqual(keeper.move("a", 99, 100), [("missed", "a", 0, 0)])

    def test_move_is_refused(self):
        keeper = Keeper()
        keeper.add("a", Each(5, 10, 2))
        held = state(keeper)
        for first, last in ((-1, 5), (-1, -1), (6, 5), (0, -1), (GREAT, 0)):
            self.refuse(NoStretch, lambda: keeper.move("a", first, last))
        self.assertEqual(state(keeper), held)
        self.assertEqual(keeper.move("a", 0, 0), [("missed", "a", 0, 0)])

    def test_move_asleep(self):
        keeper = asleep()
        keeper.add("a", Each(5, 10, 2), 1, "night")
        keeper.idle(50)
        self.assertEqual(keeper.move("a", 7, 8), [])
        self.assertEqual((keeper.about("a"), keeper.known()), ((0, 7, 8), []))
        self.refuse(NoStretch, lambda: keeper.move("a", 7, 6))
        self.assertEqual(keeper.move("a", 70, 80), [])
        self.assertEqual((keeper.wake("night"), keeper.known()), ([], [("a", 70, 80, 1)]))

    def test_the_example(self):
        keeper = Keeper()
        keeper.add("a", Each(0, 10, 3))
        keeper.move("a", 100, 105)
        keeper.add("b", Once(103, 103))
        told = keeper.go(103)
        self.assertIn(("rang", "a", 0, 103, 100, 105), told)
        self.assertIn(("missed", "a", 1, 10), told)
        self.assertEqual(keeper.about("a"), (11, 110, 113))


class PuttingOff(Case):
    def test_later_and_earlier(self):
        keeper = Keeper()
        keeper.add("a", Each(5, 10, 2))
        self.assertEqual(keeper.put_off("a", 7), [])
        self.assertEqual((keeper.about("a"), keeper.known()), ((0, 12, 14), [("a", 12, 14, 1)]))
        keeper.put_off(name="a", by=-10)
        self.assertEqual((keeper.about("a"), keeper.known()), ((0, 2, 4), [("a", 2, 4, 1)]))
        keeper.put_off("a", -2)
        self.assertEqual((keeper.about("a"), keeper.known()), ((0, 0, 2), [("a", 1, 2, 1)]))

    def test_refused_where_first_would_be_below_nought(self):
        keeper = Keeper()
        keeper.add("a", Each(5, 10, 2))
        held = state(keeper)
        for by in (-6, -7, -GREAT):
            self.refuse(NoStretch, lambda: keeper.put_off("a", by))
        self.assertEqual(state(keeper), held)

    def test_earlier_to_what_is_by(self):
        keeper = Keeper(None, 20)
        keeper.add("a", Each(30, 10, 2))
        self.assertEqual(keeper.put_off("a", -12), [("missed", "a", 0, 0)])
        self.assertEqual(keeper.about("a"), (1, 40, 42))

    def test_by_nought_it_is_laid_anew(self):
        keeper = Keeper()
        keeper.add("a", Once(2, 30))
        keeper.go(10)
        self.assertEqual(keeper.known(), [("a", 2, 30, 1)])
        self.assertEqual(keeper.put_off("a", 0), [])
        self.assertEqual((keeper.known(), keeper.about("a")), ([("a", 11, 30, 1)], (0, 2, 30)))

    def test_to_the_same_stretch_it_is_laid_anew(self):
        keeper = Keeper()
        keeper.add("a", Once(2, 30))
        keeper.go(10)
        keeper.move("a", 2, 30)
        self.assertEqual(keeper.known(), [("a", 11, 30, 1)])

    def test_asleep(self):
        keeper = asleep()
        keeper.add("a", Once(5, 9), 1, "night")
        self.assertEqual(keeper.put_off("a", 20), [])
        self.assertEqual((keeper.about("a"), keeper.known()), ((0, 25, 29), []))


class LettingBy(Case):
    def test_ahead(self):
        keeper = Keeper()
        keeper.add("a", Behind(5, 10, 2))
        self.assertEqual(keeper.let_by("a"), [("gave", "a", 0)])
        self.assertEqual((keeper.about("a"), keeper.known()), ((1, 17, 19), [("a", 17, 19, 1)]))

    def test_over(self):
        keeper = Keeper()
        keeper.add("a", Once(5, 9))
        self.assertEqual(keeper.let_by(name="a"), [("gave", "a", 0), ("over", "a")])
        self.assertEqual(keeper.bells(), [])
        keeper.add("b", Each(5, 10, 2, 2))
        self.assertEqual(keeper.let_by("b") + keeper.let_by("b"), [("gave", "b", 0), ("gave", "b", 1), ("over", "b")])

    def test_more_is_missed_as_it_is_laid(self):
        keeper = Keeper(None, 50)
        keeper.add("a", Each(60, 10, 2, 5))
        keeper.move("a", 200, 210)
        keeper.idle(35)
        self.assertEqual(keeper.let_by("a"), [("gave", "a", 0), ("missed", "a", 1, 2)])
        self.assertEqual(keeper.about("a"), (3, 90, 92))
        keeper.move("a", 500, 500)
        keeper.idle(100)
        self.assertEqual(keeper.let_by("a"), [("gave", "a", 3), ("missed", "a", 4, 4), ("over", "a")])

    def test_asleep(self):
        keeper = asleep()
        keeper.add("a", Behind(5, 10, 2, 2), 1, "night")
        keeper.idle(100)
        self.assertEqual(keeper.let_by("a"), [("gave", "a", 0)])
        self.assertEqual((keeper.about("a"), keeper.known()), ((1, 17, 19), []))
        self.assertEqual(keeper.let_by("a"), [("gave", "a", 1), ("over", "a")])
        self.assertEqual(keeper.bells(), [])


class Taking(Case):
    def test_taken(self):
        keeper = Keeper()
        keeper.add("a", Each(5, 10, 2))
        keeper.add("b", Each(5, 10, 2))
        keeper.go(7)
        self.assertEqual(keeper.take("a"), [("dropped", "a", 1)])
        self.assertEqual((keeper.bells(), keeper.known()), (["b"], [("b", 15, 17, 1)]))
        self.refuse(NoBell, lambda: keeper.take("a"), "a")
        self.assertEqual(keeper.add("a", Once(99)), [])
        self.assertEqual(keeper.about("a"), (0, 99, 99))

    def test_asleep(self):
        keeper = asleep()
        keeper.add("a", Each(5, 10, 2), 1, "night")
        keeper.idle(100)
        self.assertEqual(keeper.take(name="a"), [("dropped", "a", 0)])
        self.assertEqual((keeper.bells(), keeper.wake("night")), ([], []))


if __name__ == "__main__":
    unittest.main()

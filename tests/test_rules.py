"""Points 5 to 7 and 10: the kinds of rules, what follows what, which are refused, and their words."""

import unittest

from wakefew import errors
from wakefew.errors import NoRule, WakeError
from wakefew.rules import Behind, Each, Once, Rule, Slowing

GREAT = 10 ** 40 - 1


def walk(rule, settled):
    """The stretches that follow, the times from 0 on being settled as the list tells."""
    return [rule.follow(number, time) for number, time in enumerate(settled)]


class Classes(unittest.TestCase):
    def test_all_are_rules(self):
        for rule in (Once(0), Each(0, 1), Behind(0, 1), Slowing(0, 1, 1)):
            self.assertIsInstance(rule, Rule)

    def test_slowing_alone_is_under_another_kind(self):
        kinds = (Once, Each, Behind, Slowing)
        under = [(a, b) for a in kinds for b in kinds if a is not b and issubclass(a, b)]
        self.assertEqual(under, [(Slowing, Behind)])

    def test_the_base_has_the_methods(self):
        for name in ("begin", "follow", "let_by", "words"):
            self.assertTrue(callable(getattr(Rule, name)))


class Twins(unittest.TestCase):
    def test_a_twin_is_alike_and_another_one(self):
        for rule in (Once(3, 9), Each(1, 7, 2, 5), Each(1, 7, 2), Behind(1, 7, 20, 5), Slowing(1, 7, 30, 2)):
            twin = rule.twin()
            self.assertIs(type(twin), type(rule))
            self.assertIsNot(twin, rule)
            self.assertEqual(vars(twin), vars(rule))


class OnceTells(unittest.TestCase):
    def test_both_told(self):
        rule = Once(3, 9)
        self.assertEqual((rule.many, rule.begin()), (1, (3, 9)))

    def test_last_left_out_or_none(self):
        for rule in (Once(4), Once(4, None), Once(first=4, last=None)):
            self.assertEqual((rule.many, rule.begin()), (1, (4, 4)))

    def test_last_at_first(self):
        self.assertEqual(Once(first=4, last=4).begin(), (4, 4))

    def test_from_nought(self):
        self.assertEqual(Once(0).begin(), (0, 0))
        self.assertEqual(Once(0, 0).begin(), (0, 0))

    def test_nothing_follows(self):
        for settled in (-7, 0, 3, 9, 100, GREAT):
            self.assertIsNone(Once(3, 9).follow(0, settled))


class EachTells(unittest.TestCase):
    def test_all_told(self):
        rule = Each(start=5, step=10, wide=3, many=4)
        self.assertEqual((rule.many, rule.begin()), (4, (5, 8)))
        self.assertEqual(walk(rule, [5, 16, 28, 35]), [(15, 18), (25, 28), (35, 38), None])

    def test_left_out(self):
        rule = Each(5, 10)
        self.assertEqual((rule.many, rule.begin()), (None, (5, 5)))
        self.assertEqual(walk(rule, [5, 15, 25]), [(15, 15), (25, 25), (35, 35)])
        self.assertIsNone(Each(5, 10, 3).many)
        self.assertEqual(Each(5, 10, many=2).begin(), (5, 5))

    def test_when_it_was_settled_plays_no_part(self):
        for settled in (-100, -1, 0, 14, 1000, GREAT):
            self.assertEqual(Each(5, 10, 3).follow(2, settled), (35, 38))

    def test_one_time_alone(self):
        self.assertIsNone(Each(5, 10, 3, 1).follow(0, 6))

    def test_least_numbers(self):
        self.assertEqual(Each(0, 1, 0).follow(0, 0), (1, 1))

    def test_widest(self):
        self.assertEqual(Each(0, 5, 4).follow(0, 0), (5, 9))


class BehindTells(unittest.TestCase):
    def test_all_told(self):
        rule = Behind(start=5, gap=10, wide=3, many=4)
        self.assertEqual((rule.many, rule.begin()), (4, (5, 8)))
        self.assertEqual(walk(rule, [5, 16, 40, 50]), [(15, 18), (26, 29), (50, 53), None])

    def test_left_out(self):
        rule = Behind(5, 10)
        self.assertEqual((rule.many, rule.begin()), (None, (5, 5)))
        self.assertEqual(walk(rule, [5, 15, 25]), [(15, 15), (25, 25), (35, 35)])
        self.assertIsNone(Behind(5, 10, 3).many)
        self.assertEqual(Behind(5, 10, many=2).begin(), (5, 5))

    def test_settled_early_late_and_before_nought(self):
        rule = Behind(50, 10, 3)
        for settled, first in ((2, 12), (0, 10), (-4, 6), (-100, -90), (900, 910)):
            self.assertEqual(rule.follow(0, settled), (first, first + 3))
            self.assertEqual(rule.follow(7, settled), (first, first + 3))

    def test_wider_than_its_gap(self):
        self.assertEqual(Behind(0, 1, 9).begin(), (0, 9))
        self.assertEqual(Behind(0, 1, 9).follow(0, 2), (3, 12))

    def test_one_time_alone(self):
        self.assertIsNone(Behind(5, 10, 3, 1).follow(0, 6))


class SlowingTells(unittest.TestCase):
    def test_the_example(self):
        rule = Slowing(0, 2, 10, 1)
        self.assertEqual((rule.many, rule.begin()), (None, (0, 1)))
        self.assertEqual(walk(rule, [1, 4, 9, 17]), [(3, 4), (8, 9), (17, 18), (27, 28)])
        self.assertEqual(walk(rule, [0] * 7), [(gap, gap + 1) for gap in (2, 4, 8, 10, 10, 10, 10)])

    def test_all_told(self):
        rule = Slowing(start=5, gap=3, most=12, wide=2, many=5)
        self.assertEqual((rule.many, rule.begin()), (5, (5, 7)))
        self.assertEqual(walk(rule, [5, 10, 20, 40, 60]), [(8, 10), (16, 18), (32, 34), (52, 54), None])

    def test_left_out(self):
        rule = Slowing(5, 3, 7)
        self.assertEqual((rule.many, rule.begin()), (None, (5, 5)))
        self.assertEqual(walk(rule, [5, 5, 5]), [(8, 8), (11, 11), (12, 12)])
        self.assertIsNone(Slowing(5, 3, 7, 2).many)
        self.assertEqual(Slowing(5, 3, 7, many=2).begin(), (5, 5))

    def test_most_at_gap(self):
        self.assertEqual(walk(Slowing(0, 4, 4), [0, 0, 0]), [(4, 4)] * 3)

    def test_most_just_reached_by_doubling(self):
        self.assertEqual(walk(Slowing(0, 4, 16), [0] * 4), [(4, 4), (8, 8), (16, 16), (16, 16)])

    def test_settled_early_late_and_before_nought(self):
        rule = Slowing(50, 2, 100, 3)
        for settled in (-100, -4, 0, 7, 900):
            self.assertEqual(rule.follow(3, settled), (settled + 16, settled + 19))

    def test_one_time_alone(self):
        self.assertIsNone(Slowing(5, 10, 20, 3, 1).follow(0, 6))


class AskedAgain(unittest.TestCase):
    def test_again_and_in_turn_with_another_one(self):
        rules = [Once(3, 5), Each(0, 7, 2, 9), Behind(1, 4, 2, 9), Slowing(0, 2, 10, 1, 9), Slowing(0, 3, 90)]

        def answers(rule):
            return [rule.many, rule.begin(), rule.follow(0, 3), rule.let_by(0, 3, 20), rule.words()]

        apart = [[answers(rule) for turn in range(3)] for rule in rules]
        held = [dict(vars(rule)) for rule in rules]
        for turn in range(3):
            for place, rule in enumerate(rules):
                self.assertEqual(answers(rule), apart[place][turn])
                self.assertEqual(answers(rule), apart[place][0])
        self.assertEqual([vars(rule) for rule in rules], held)

    def test_order_of_asking_plays_no_part(self):
        rule = Slowing(0, 2, 10, 1)
        back = [rule.follow(number, 0) for number in (3, 2, 1, 0)]
        self.assertEqual(back, [(10, 11), (8, 9), (4, 5), (2, 3)])


GOOD = {
    Once: {"first": 6, "last": 8},
    Each: {"start": 6, "step": 5, "wide": 3, "many": 4},
    Behind: {"start": 6, "gap": 5, "wide": 3, "many": 4},
    Slowing: {"start": 6, "gap": 5, "most": 9, "wide": 3, "many": 4},
}
LEAST = {
    Once: {"first": 0, "last": 6},
    Each: {"start": 0, "step": 4, "wide": 0, "many": 1},
    Behind: {"start": 0, "gap": 1, "wide": 0, "many": 1},
    Slowing: {"start": 0, "gap": 1, "most": 5, "wide": 0, "many": 1},
}
NONE_IS_GOOD = ("last", "many")


class Refused(unittest.TestCase):
    def refuse(self, kind, numbers):
        with self.subTest(kind.__name__, numbers=numbers):
            with self.assertRaises(NoRule) as taken:
                kind(**numbers)
            classes = [thing for thing in vars(errors).values() if isinstance(thing, type)]
            under = [thing for thing in classes if isinstance(taken.exception, thing)]
            self.assertCountEqual(under, [NoRule, WakeError])
            self.assertIsInstance(taken.exception, ValueError)

    def test_each_number_at_its_least_and_one_below(self):
        for kind, numbers in LEAST.items():
            for name, least in numbers.items():
                kind(**dict(GOOD[kind], **{name: least}))
                self.refuse(kind, dict(GOOD[kind], **{name: least - 1}))
                self.refuse(kind, dict(GOOD[kind], **{name: -GREAT}))

    def test_step_and_gap_of_one_and_nought(self):
        self.assertEqual(Each(0, 1).follow(0, 0), (1, 1))
        self.refuse(Each, {"start": 0, "step": 0})
        self.refuse(Each, {"start": 0, "step": 0, "wide": -1})
        self.assertEqual(Slowing(0, 1, 1).follow(0, 0), (1, 1))
        self.refuse(Slowing, {"start": 0, "gap": 0, "most": 0})
        self.refuse(Slowing, {"start": 0, "gap": 0, "most": 5})

    def test_width_of_each_at_its_step(self):
        self.assertEqual(Each(0, 7, 6).begin(), (0, 6))
        for wide in (7, 8, GREAT):
            self.refuse(Each, {"start": 0, "step": 7, "wide": wide})
        self.refuse(Each, {"start": 0, "step": 1, "wide": 1})

    def test_last_of_once_below_its_first(self):
        for last in (0, 5, -1):
            self.refuse(Once, {"first": 6, "last": last})

    def test_most_of_slowing_below_its_gap(self):
        for most in (0, 1, 4, -5):
            self.refuse(Slowing, {"start": 0, "gap": 5, "most": most})

    def test_no_whole_number_at_each_place(self):
        for kind, numbers in GOOD.items():
            for name in numbers:
                for thing in (True, False, "", "5", "ever", [], [5], (5,), {}, 5.0):
                    self.refuse(kind, dict(numbers, **{name: thing}))

    def test_none_where_it_is_not_good(self):
        for kind, numbers in GOOD.items():
            for name in numbers:
                handed = dict(numbers, **{name: None})
                if name in NONE_IS_GOOD:
                    self.assertIsInstance(kind(**handed), kind)
                else:
                    self.refuse(kind, handed)

    def test_none_for_first_with_last_left_out(self):
        self.refuse(Once, {"first": None})
        self.refuse(Once, {"first": None, "last": None})
        self.refuse(Once, {"first": -1})

    def test_truths_that_would_be_good_numbers(self):
        self.refuse(Once, {"first": False})
        self.refuse(Once, {"first": 0, "last": True})
        self.refuse(Each, {"start": 0, "step": True})
        self.refuse(Behind, {"start": 0, "gap": 1, "many": True})
        self.refuse(Slowing, {"start": 0, "gap": 1, "most": True})

    def test_great_numbers_are_refused_likewise(self):
        self.refuse(Each, {"start": -(10 ** 5000), "step": 1})
        self.refuse(Slowing, {"start": 0, "gap": 10 ** 5000, "most": 1})

    def test_a_refusal_changes_nothing(self):
        handed = [5]
        rule = Each(0, 7, 2)
        for start in (handed, -1, None):
            self.refuse(Each, {"start": start, "step": 9})
        self.assertEqual((handed, rule.begin(), rule.words()), ([5], (0, 2), "each 0 7 2 ever"))


class Words(unittest.TestCase):
    def test_all_told(self):
        self.assertEqual(Once(3, 9).words(), "once 3 9")
        self.assertEqual(Each(1, 7, 2, 5).words(), "each 1 7 2 5")
        self.assertEqual(Behind(1, 7, 20, 5).words(), "behind 1 7 20 5")
        self.assertEqual(Slowing(1, 7, 30, 2, 5).words(), "slowing 1 7 30 2 5")

    def test_without_an_end(self):
        self.assertEqual(Each(0, 7, 2).words(), "each 0 7 2 ever")
        self.assertEqual(Each(0, 7, 2, None).words(), "each 0 7 2 ever")
        self.assertEqual(Behind(0, 7, 2).words(), "behind 0 7 2 ever")
        self.assertEqual(Slowing(0, 7, 9, 2).words(), "slowing 0 7 9 2 ever")

    def test_left_out(self):
        self.assertEqual(Once(4).words(), "once 4 4")
        self.assertEqual(Once(4, None).words(), "once 4 4")
        self.assertEqual(Each(0, 7).words(), "each 0 7 0 ever")
        self.assertEqual(Behind(0, 7).words(), "behind 0 7 0 ever")
        self.assertEqual(Slowing(0, 7, 7).words(), "slowing 0 7 7 0 ever")

    def test_great_numbers(self):
        nines = "9" * 40
        self.assertEqual(Once(GREAT).words(), f"once {nines} {nines}")
        self.assertEqual(Each(GREAT, GREAT, GREAT - 1, GREAT).words(), f"each {nines} {nines} {nines[1:]}8 {nines}")
        self.assertEqual(Slowing(0, 1, GREAT, GREAT).words(), f"slowing 0 1 {nines} {nines} ever")

    def test_what_was_told_is_handed_in_again_and_again(self):
        number = 10 ** 39
        for turn in range(7):
            number = Each(0, number).follow(number - 1, 0)[0]
        self.assertEqual(Each(0, number).words(), "each 0 1" + "0" * 4992 + " 0 ever")


if __name__ == "__main__":
    unittest.main()

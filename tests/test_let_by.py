"""Points 8 and 9: where a bell goes on that was left alone, and that great numbers are told at once."""

import unittest

from helper import GREAT, Case
from wakefew.rules import Behind, Each, Once, Slowing


def walked(rule, number, last, now):
    """What let_by must tell, by asking follow time by time."""
    while True:
        stretch = rule.follow(number, last)
        number = number + 1
        if stretch is None:
            return (rule.many, None)
        if stretch[1] > now:
            return (number, stretch)
        last = stretch[1]


class AgainstFollow(unittest.TestCase):
    def hold(self, rule):
        numbers = range(7) if rule.many is None else range(min(rule.many, 7))
        for number in numbers:
            for last in (-9, -1, 0, 1, 2, 5, 11, 30):
                for now in [last, last + 1, last + 2, last + 3, last + 7, last + 20, last + 61]:
                    told = rule.let_by(number, last, now)
                    if told != walked(rule, number, last, now):
                        self.fail(f"{rule.words()}: let_by({number}, {last}, {now}) tells {told}")

    def test_once(self):
        for rule in (Once(0), Once(4), Once(2, 9)):
            self.hold(rule)

    def test_each(self):
        for many in (None, 1, 2, 5, 30):
            for start in (0, 3, 40):
                for step, wide in ((1, 0), (2, 0), (2, 1), (5, 2), (5, 4), (30, 7)):
                    self.hold(Each(start, step, wide, many))

    def test_behind(self):
        for many in (None, 1, 2, 5, 30):
            for start in (0, 40):
                for gap, wide in ((1, 0), (1, 3), (2, 0), (2, 1), (5, 2), (30, 7)):
                    self.hold(Behind(start, gap, wide, many))

    def test_slowing(self):
        for many in (None, 1, 2, 4, 5, 30):
            for gap, most in ((1, 1), (1, 2), (1, 3), (1, 4), (1, 50), (2, 10), (3, 12), (5, 5), (7, 1000)):
                for wide in (0, 1, 6):
                    self.hold(Slowing(2, gap, most, wide, many))


class ByHand(unittest.TestCase):
    def test_the_example(self):
        rule = Slowing(0, 2, 10, 1)
        self.assertEqual(rule.let_by(0, 1, 20), (4, (28, 29)))
        self.assertEqual(rule.let_by(number=0, last=1, now=20), (4, (28, 29)))
        ends = [rule.let_by(0, 1, now) for now in (1, 3, 4, 8, 9, 17, 18, 28, 29)]
        numbers = [1, 1, 2, 2, 3, 3, 4, 4, 5]
        firsts = {1: 3, 2: 8, 3: 17, 4: 28, 5: 39}
        self.assertEqual(ends, [(n, (firsts[n], firsts[n] + 1)) for n in numbers])

    def test_an_end_at_now_is_let_by(self):
        self.assertEqual(Each(0, 10, 3).let_by(0, 3, 12), (1, (10, 13)))
        self.assertEqual(Each(0, 10, 3).let_by(0, 3, 13), (2, (20, 23)))
        self.assertEqual(Behind(0, 10, 3).let_by(0, 3, 15), (1, (13, 16)))
        self.assertEqual(Behind(0, 10, 3).let_by(0, 3, 16), (2, (26, 29)))

    def test_a_bell_that_was_moved(self):
        self.assertEqual(Each(0, 10, 3).let_by(0, 105, 105), (11, (110, 113)))
        self.assertEqual(Each(1000, 10, 3).let_by(4, 7, 9), (5, (1050, 1053)))
        self.assertEqual(Behind(0, 10, 3).let_by(0, 105, 105), (1, (115, 118)))
        self.assertEqual(Behind(0, 10, 3).let_by(0, -50, -30), (2, (-27, -24)))

    def test_behind_the_last_time(self):
        self.assertEqual(Once(3, 9).let_by(0, 9, 9), (1, None))
        self.assertEqual(Once(3, 9).let_by(0, 2, GREAT), (1, None))
        for rule in (Each(0, 10, 3, 3), Behind(0, 7, 3, 3), Slowing(0, 7, 7, 3, 3)):
            self.assertEqual(rule.let_by(0, 3, 22), (2, (20, 23)))
            self.assertEqual(rule.let_by(0, 3, 23), (3, None))
            self.assertEqual(rule.let_by(0, 3, 5000), (3, None))
            self.assertEqual(rule.let_by(2, 23, 23), (3, None))

    def test_in_one_leap_or_in_two(self):
        rule = Slowing(0, 3, 40, 2)
        for now in range(5, 300):
            number, stretch = rule.let_by(0, 2, now)
            self.assertEqual(rule.let_by(number, stretch[1], 400), rule.let_by(0, 2, 400))


class AtOnce(Case):
    """Each test is stopped where it goes through the times one by one."""

    def setUp(self):
        self.at_once()

    def test_follow_with_a_great_number(self):
        self.assertEqual(Each(3, 7, 2).follow(GREAT, -GREAT), (3 + 7 * 10 ** 40, 5 + 7 * 10 ** 40))
        self.assertEqual(Behind(3, 7, 2).follow(GREAT, 5), (12, 14))
        self.assertEqual(Slowing(3, 7, 100, 2).follow(GREAT, 5), (105, 107))
        self.assertEqual(Slowing(3, 1, GREAT, 2).follow(GREAT, 5), (GREAT + 5, GREAT + 7))
        self.assertEqual(Slowing(3, 1, GREAT, 2).follow(100, 5), (2 ** 100 + 5, 2 ** 100 + 7))

    def test_follow_with_all_numbers_great(self):
        self.assertEqual(Once(GREAT, GREAT).begin(), (GREAT, GREAT))
        rule = Each(GREAT, GREAT, GREAT - 1, GREAT)
        self.assertEqual(rule.follow(GREAT - 2, GREAT), (GREAT * GREAT, GREAT * GREAT + GREAT - 1))
        self.assertIsNone(rule.follow(GREAT - 1, GREAT))
        for rule in (Behind(GREAT, GREAT, GREAT, GREAT), Slowing(GREAT, GREAT, GREAT, GREAT, GREAT)):
            self.assertEqual(rule.follow(GREAT - 2, GREAT), (2 * GREAT, 3 * GREAT))
            self.assertEqual(rule.follow(0, -GREAT), (0, GREAT))
            self.assertIsNone(rule.follow(GREAT - 1, GREAT))

    def test_each_with_a_great_now(self):
        self.assertEqual(Each(0, 1).let_by(0, 0, GREAT), (10 ** 40, (10 ** 40, 10 ** 40)))
        self.assertEqual(Each(0, 10, 3).let_by(5, -GREAT, GREAT), (10 ** 39, (10 ** 40, 10 ** 40 + 3)))
        self.assertEqual(Each(0, 1, 0, GREAT).let_by(0, 0, GREAT), (GREAT, None))
        self.assertEqual(Each(0, 1, 0, GREAT).let_by(0, 0, GREAT - 2), (GREAT - 1, (GREAT - 1, GREAT - 1)))
        self.assertEqual(Each(0, 1, 0, 9).let_by(0, 0, GREAT), (9, None))

    def test_each_with_a_great_number_or_start(self):
        self.assertEqual(Each(0, 1).let_by(GREAT, 0, 7), (10 ** 40, (10 ** 40, 10 ** 40)))
        self.assertEqual(Each(GREAT, 2, 1).let_by(0, 5, 7), (1, (GREAT + 2, GREAT + 3)))
        self.assertEqual(Each(GREAT, GREAT, GREAT - 1).let_by(0, GREAT, GREAT), (1, (2 * GREAT, 3 * GREAT - 1)))

    def test_behind_with_great_numbers(self):
        self.assertEqual(Behind(0, 1).let_by(0, 0, GREAT), (10 ** 40, (10 ** 40, 10 ** 40)))
        self.assertEqual(Behind(0, 7, 3).let_by(2, 0, GREAT), (2 + 10 ** 39, (10 ** 40 - 3, 10 ** 40)))
        self.assertEqual(Behind(0, 1).let_by(0, -GREAT, GREAT), (2 * GREAT + 1, (10 ** 40, 10 ** 40)))
        self.assertEqual(Behind(0, 1, 0, GREAT).let_by(0, 0, GREAT), (GREAT, None))
        self.assertEqual(Behind(0, 1).let_by(GREAT, 5, 7), (GREAT + 3, (8, 8)))
        self.assertEqual(Behind(0, 5, GREAT).let_by(0, 0, GREAT), (1, (5, GREAT + 5)))
        self.assertEqual(Behind(GREAT, GREAT, GREAT, GREAT).let_by(GREAT - 1, GREAT, GREAT), (GREAT, None))

    def test_slowing_with_a_small_most(self):
        # The gaps 1, 2, .., 512 end at 1023; from then on each is 1024.
        rule = Slowing(0, 1, 1024)
        rounds = 10 ** 36
        end = 1024 * (rounds + 1) - 1
        self.assertEqual(rule.let_by(0, 0, 1024 * rounds - 1), (rounds + 10, (end, end)))
        self.assertEqual(rule.let_by(0, 0, 1024 * rounds - 2), (rounds + 9, (end - 1024, end - 1024)))
        self.assertEqual(rule.let_by(GREAT, 0, 1023), (GREAT + 1, (1024, 1024)))
        self.assertEqual(Slowing(0, 1, 1024, 0, 77).let_by(0, 0, GREAT), (77, None))

    def test_slowing_with_a_great_most_not_reached(self):
        end = 2 ** 101 - 1
        self.assertEqual(Slowing(0, 1, GREAT).let_by(0, 0, 2 ** 100), (101, (end, end)))
        self.assertEqual(Slowing(0, 1, GREAT, 0, 101).let_by(0, 0, 2 ** 100), (101, None))

    def test_slowing_with_a_great_most_reached(self):
        most = 2 ** 130
        self.assertEqual(len(str(most)), 40)
        end = 8 * most - 1
        self.assertEqual(Slowing(0, 1, most).let_by(0, 0, GREAT), (137, (end, end)))
        self.assertEqual(Slowing(0, 1, most).let_by(0, -GREAT, 7 * most - 1 - GREAT), (137, (end - GREAT, end - GREAT)))
        self.assertEqual(Slowing(0, 1, most).let_by(GREAT, 0, 3), (GREAT + 1, (most, most)))
        self.assertEqual(Slowing(0, 1, most, 0, 137).let_by(0, 0, GREAT), (137, None))

    def test_slowing_with_all_numbers_great(self):
        rule = Slowing(GREAT, GREAT, GREAT, GREAT)
        self.assertEqual(rule.let_by(GREAT, GREAT, GREAT), (GREAT + 1, (2 * GREAT, 3 * GREAT)))
        self.assertEqual(rule.let_by(0, -GREAT, GREAT), (2, (2 * GREAT, 3 * GREAT)))
        self.assertEqual(Slowing(0, 1, 1).let_by(0, -GREAT, GREAT), (2 * GREAT + 1, (GREAT + 1, GREAT + 1)))


if __name__ == "__main__":
    unittest.main()

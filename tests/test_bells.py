"""Points 33 and 34, as far as they speak of a bell by itself."""

import unittest

from helper import Case
from wakefew.bells import Bell
from wakefew.rules import Each, Once, Slowing


class OfABell(Case):
    def test_as_it_is_made(self):
        bell = Bell("tea", Each(5, 10, 3), 2, "house", True)
        self.assertEqual((bell.name, bell.weight, bell.home, bell.by_day), ("tea", 2, "house", True))
        self.assertEqual((bell.rule.words(), bell.about()), ("each 5 10 3 ever", (0, 5, 8)))
        self.assertEqual((bell.is_waiting(), bell.is_over()), (False, False))

    def test_its_own_clock(self):
        self.assertEqual(Bell("a", Once(5), 1, None, True).lead(7), 7)
        self.assertEqual(Bell("a", Once(5), 1, None, True).lead(-7), -7)
        self.assertEqual(Bell("a", Once(5), 1, None, False).lead(7), 0)

    def test_settled(self):
        bell = Bell("a", Slowing(0, 2, 10, 1, 3), 1, None, False)
        bell.settle(1)
        self.assertEqual((bell.about(), bell.is_over()), ((1, 3, 4), False))
        bell.settle(4)
        self.assertEqual(bell.about(), (2, 8, 9))
        bell.settle(9)
        self.assertTrue(bell.is_over())

    def test_caught_up(self):
        bell = Bell("a", Each(0, 10, 3, 9), 1, None, False)
        self.assertEqual((bell.catch_up(2), bell.about()), ([], (0, 0, 3)))
        self.assertEqual((bell.catch_up(3), bell.about()), ([("missed", "a", 0, 0)], (1, 10, 13)))
        self.assertEqual((bell.catch_up(50), bell.about()), ([("missed", "a", 1, 4)], (5, 50, 53)))
        self.assertEqual((bell.catch_up(99), bell.is_over()), ([("missed", "a", 5, 8)], True))

    def test_moved(self):
        bell = Bell("a", Each(0, 10, 3), 1, None, False)
        bell.move(100, 105)
        self.assertEqual(bell.about(), (0, 100, 105))
        bell.settle(103)
        self.assertEqual(bell.about(), (1, 10, 13))

    def test_waiting(self):
        bell = Bell("a", Once(5, 9), 1, None, False)
        bell.wait(2, 3)
        self.assertEqual((bell.since, bell.until, bell.is_waiting()), (5, 9, True))
        bell.wait(6, 3)
        self.assertEqual((bell.since, bell.until), (7, 9))
        bell.rest()
        self.assertEqual((bell.since, bell.until, bell.is_waiting()), (None, None, False))

    def test_waiting_by_the_days_clock(self):
        bell = Bell("a", Once(50, 90), 1, None, True)
        bell.wait(2, 3)
        self.assertEqual((bell.since, bell.until), (47, 87))
        bell.wait(2, -3)
        self.assertEqual((bell.since, bell.until), (53, 93))
        bell.wait(50, 3)
        self.assertEqual((bell.since, bell.until), (51, 87))

    def test_its_rule_is_its_own(self):
        rule = Each(0, 10, 3)
        bell, other = Bell("a", rule, 1, None, False), Bell("b", rule, 1, None, False)
        rule.many, rule.step = 1, 7
        bell.settle(2)
        self.assertEqual((bell.about(), other.about()), ((1, 10, 13), (0, 0, 3)))


if __name__ == "__main__":
    unittest.main()

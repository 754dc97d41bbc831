"""Points 3, 30 and 31: a few wakings of the greatest weight, and the price and shares that show it."""

import itertools
import random
import unittest

from helper import GREAT, Case, some_claims
from wakefew.prices import weight_of
from wakefew.thin import thin
from wakefew.wholes import is_whole

EXAMPLE = [("a", 1, 4, 2), ("b", 3, 6, 5), ("c", 5, 9, 5)]


class Held(Case):
    def hold(self, claims, most):
        """Each sentence of point 30; told is the weight that is rung."""
        held = list(claims)
        told = thin(claims, most)
        self.assertEqual(claims, held)
        self.assertIsInstance(told, tuple)
        wakings, price, shares = told
        self.assertIsInstance(wakings, list)
        self.assertTrue(all(is_whole(time) for time in wakings))
        self.assertEqual(wakings, sorted(set(wakings)))
        self.assertLessEqual(len(wakings), most)
        self.assertTrue(is_whole(price) and price >= 0)
        self.assertCountEqual(shares, [claim[0] for claim in claims])
        for name, first, last, weight in claims:
            self.assertTrue(is_whole(shares[name]) and 0 <= shares[name] <= weight)
            load = sum(shares[claim[0]] for claim in claims if claim[1] <= first <= claim[2])
            self.assertLessEqual(load, price)
        rung = weight_of(wakings, claims)
        self.assertEqual(most * price + sum(claim[3] - shares[claim[0]] for claim in claims), rung)
        self.assertEqual(thin(claims, most), told)
        self.assertEqual(thin(list(claims), most), told)
        return rung


class ByHand(Held):
    def test_no_claims(self):
        for most in (0, 1, 60, GREAT):
            self.assertEqual(self.hold([], most), 0)
            self.assertEqual(thin([], most)[0], [])
            self.assertEqual(thin([], most)[2], {})

    def test_the_example_of_the_shares(self):
        self.assertEqual([self.hold(EXAMPLE, most) for most in (0, 1, 2, 3, 60)], [0, 10, 12, 12, 12])
        self.assertEqual(thin(claims=EXAMPLE, most=0)[0], [])

    def test_one_claim(self):
        for most in (0, 1, 2, GREAT):
            self.assertEqual(self.hold([("a", 3, 9, 7)], most), 7 if most else 0)

    def test_light_claims_give_way(self):
        claims = [("a", 0, 9, 1), ("b", 20, 29, 9), ("c", 40, 49, 5), ("d", 45, 60, 3)]
        self.assertEqual([self.hold(claims, most) for most in range(5)], [0, 9, 17, 18, 18])

    def test_the_heaviest_time_is_not_always_among_the_best(self):
        claims = [("a", 0, 4, 5), ("b", 4, 6, 3), ("c", 6, 10, 5)]
        self.assertEqual([self.hold(claims, most) for most in range(4)], [0, 8, 13, 13])

    def test_far_more_wakings_than_claims(self):
        for most in (3, 4, 60, 10 ** 12, GREAT, GREAT ** 3):
            self.assertEqual(self.hold(EXAMPLE, most), 12)


class AgainstAllChoices(Held):
    def test_few_claims(self):
        for seed in range(150):
            chance = random.Random(seed)
            claims = some_claims(chance, chance.randint(0, 7), 8, chance.choice([0, 3, 8]), chance.choice([1, 4, 50]))
            # Any waking may wait for an end of a claim that it rings, so these are all choices that matter.
            ends = sorted({claim[2] for claim in claims})
            rung = []
            for most in range(len(claims) + 2):
                best = max(weight_of(choice, claims) for count in range(min(most, len(ends)) + 1)
                           for choice in itertools.combinations(ends, count))
                rung.append(self.hold(claims, most))
                self.assertEqual(rung[-1], best)
            grown = [more - less for less, more in zip(rung, rung[1:])]
            self.assertEqual(grown, sorted(grown, reverse=True))

    def test_all_times_for_very_few(self):
        for seed in range(40):
            chance = random.Random(seed)
            claims = some_claims(chance, chance.randint(1, 5), 4, 3, 9)
            for most in range(3):
                best = max(weight_of(choice, claims) for choice in itertools.combinations(range(-5, 9), most))
                self.assertEqual(self.hold(claims, most), best)


class Sixty(Held):
    def test_told_at_once(self):
        self.at_once()
        for seed, wide in enumerate((0, 10 ** 37, 10 ** 38, 10 ** 39, GREAT)):
            claims = some_claims(random.Random(seed), 60, GREAT // 2, wide, 10 ** 12 - 1)
            rung = [self.hold(claims, most) for most in (0, 1, 2, 3, 4, 5, 6, 30, 60, GREAT)]
            grown = [more - less for less, more in zip(rung[:7], rung[1:7])]
            self.assertEqual(grown, sorted(grown, reverse=True))
            self.assertEqual((rung[0], rung[-1]), (0, sum(claim[3] for claim in claims)))

    def test_like_weights_and_many_that_end_together(self):
        self.at_once()
        for seed in range(5):
            claims = some_claims(random.Random(seed), 60, 20, 6, 1)
            rung = [self.hold(claims, most) for most in range(0, 61, 4)]
            self.assertEqual(rung, sorted(rung))


class TheAskersOwn(Held):
    def test_what_was_told(self):
        claims = list(EXAMPLE)
        told = thin(claims, 1)
        wakings, shares = list(told[0]), dict(told[2])
        told[0].clear()
        told[2].clear()
        again = thin(claims, 1)
        claims.clear()
        self.assertEqual((again[0], again[2]), (wakings, shares))


if __name__ == "__main__":
    unittest.main()

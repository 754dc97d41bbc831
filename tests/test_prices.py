"""Points 3, 28 and 29: the weight that wakings ring, who gives way, and the shares at a price."""

import random
import unittest

from helper import GREAT, Case, some_claims
from wakefew.prices import gave_way, shares_at, weight_of

EXAMPLE = [("a", 1, 4, 2), ("b", 3, 6, 5), ("c", 5, 9, 5)]


class Weight(Case):
    def test_by_hand(self):
        for wakings, weight, names in (
            ([], 0, ["a", "b", "c"]), ([0], 0, ["a", "b", "c"]), ([1], 2, ["b", "c"]), ([4], 7, ["c"]),
            ([5], 10, ["a"]), ([9], 5, ["a", "b"]), ([10], 0, ["a", "b", "c"]), ([4, 9], 12, []), ([9, 4], 12, []),
            ([3, 4], 7, ["c"]), ([4, 4, 4], 7, ["c"]), ([9, 5, 9, 5], 10, ["a"]), ([99, 1, -3, 1], 2, ["b", "c"]),
        ):
            self.assertEqual((weight_of(wakings, EXAMPLE), gave_way(wakings, EXAMPLE)), (weight, names))
        self.assertEqual(weight_of(wakings=[4], claims=EXAMPLE), 7)
        self.assertEqual(gave_way(wakings=[4], claims=EXAMPLE), ["c"])

    def test_no_claims(self):
        self.assertEqual((weight_of([1, 2], []), gave_way([1, 2], [])), (0, []))
        self.assertEqual((weight_of([], []), gave_way([], [])), (0, []))

    def test_the_names_are_sorted(self):
        claims = [(name, 1, 2, 3) for name in ("c", "ab", "b", "a")]
        self.assertEqual(gave_way([3], claims), ["a", "ab", "b", "c"])

    def test_against_the_words(self):
        for seed in range(80):
            chance = random.Random(seed)
            claims = some_claims(chance, chance.randint(0, 15), 20, 9, 30)
            wakings = [chance.randint(-25, 30) for turn in range(chance.randint(0, 9))]
            held = list(claims), list(wakings)
            rung = [claim for claim in claims if any(claim[1] <= time <= claim[2] for time in wakings)]
            self.assertEqual(weight_of(wakings, claims), sum(claim[3] for claim in rung))
            self.assertEqual(gave_way(wakings, claims), sorted(claim[0] for claim in claims if claim not in rung))
            self.assertEqual((claims, wakings), held)

    def test_four_hundred(self):
        self.at_once()
        claims = some_claims(random.Random(1), 400, GREAT, 10 ** 38, 10 ** 12 - 1)
        wakings = [last for name, first, last, weight in claims]
        self.assertEqual(weight_of(wakings, claims), sum(claim[3] for claim in claims))
        self.assertEqual(gave_way(wakings, claims), [])
        self.assertEqual(len(gave_way([], claims)), 400)

    def test_what_was_told_is_the_askers_own(self):
        gave_way([4], EXAMPLE).clear()
        self.assertEqual(gave_way([4], EXAMPLE), ["c"])


class Shares(Case):
    def test_the_example(self):
        self.assertEqual(shares_at(3, EXAMPLE), {"a": 2, "b": 1, "c": 2})
        self.assertEqual(shares_at(price=3, claims=EXAMPLE), {"a": 2, "b": 1, "c": 2})

    def test_by_hand(self):
        self.assertEqual(shares_at(0, EXAMPLE), {"a": 0, "b": 0, "c": 0})
        self.assertEqual(shares_at(1, EXAMPLE), {"a": 1, "b": 0, "c": 1})
        self.assertEqual(shares_at(7, EXAMPLE), {"a": 2, "b": 5, "c": 2})
        self.assertEqual(shares_at(10, EXAMPLE), {"a": 2, "b": 5, "c": 5})

    def test_above_all_weights_together(self):
        for price in (12, 13, GREAT):
            self.assertEqual(shares_at(price, EXAMPLE), {"a": 2, "b": 5, "c": 5})

    def test_no_claims(self):
        self.assertEqual((shares_at(0, []), shares_at(5, [])), ({}, {}))

    def test_the_same_last_by_name(self):
        for claims in ([("b", 1, 4, 3), ("a", 2, 4, 3)], [("a", 2, 4, 3), ("b", 1, 4, 3)]):
            self.assertEqual(shares_at(4, claims), {"a": 3, "b": 1})
        self.assertEqual(shares_at(4, [("a", 1, 4, 3), ("b", 2, 3, 3)]), {"a": 1, "b": 3})

    def test_a_load_between_the_ends(self):
        claims = [("a", 0, 3, 2), ("b", 3, 6, 2), ("c", -9, 9, 9)]
        self.assertEqual(shares_at(5, claims), {"a": 2, "b": 2, "c": 1})
        self.assertEqual(shares_at(5, [("a", 0, 3, 2), ("b", 4, 6, 2), ("c", -9, 9, 9)]), {"a": 2, "b": 2, "c": 3})

    def test_against_the_words(self):
        for seed in range(200):
            chance = random.Random(seed)
            wide, weight = chance.choice([0, 3, 12]), chance.choice([1, 5, 20])
            claims = some_claims(chance, chance.randint(0, 12), 12, wide, weight)
            for price in (0, 1, 2, 3, 5, 8, 20, 300):
                held = list(claims)
                loads = dict.fromkeys(range(-13, 26), 0)
                wanted = {}
                for name, first, last, weight in sorted(claims, key=lambda claim: (claim[2], claim[0])):
                    fits = [share for share in range(weight + 1)
                            if all(loads[time] + share <= price for time in range(first, last + 1))]
                    wanted[name] = max(fits)
                    for time in range(first, last + 1):
                        loads[time] += wanted[name]
                self.assertEqual(shares_at(price, claims), wanted)
                self.assertEqual(shares_at(price, claims[::-1]), wanted)
                self.assertEqual(claims, held)

    def test_four_hundred(self):
        self.at_once()
        claims = some_claims(random.Random(2), 400, GREAT, GREAT // 50, 10 ** 12 - 1)
        shares = shares_at(10 ** 12, claims)
        for name, first, last, weight in claims:
            for time in (first, last):
                load = sum(shares[claim[0]] for claim in claims if claim[1] <= time <= claim[2])
                self.assertLessEqual(load, 10 ** 12)
        self.assertTrue(any(0 < shares[name] < weight for name, first, last, weight in claims))

    def test_what_was_told_is_the_askers_own(self):
        claims = list(EXAMPLE)
        told = shares_at(3, claims)
        held = dict(told)
        told.clear()
        self.assertEqual(shares_at(3, claims), held)
        again = shares_at(3, claims)
        claims.clear()
        self.assertEqual(again, held)


if __name__ == "__main__":
    unittest.main()

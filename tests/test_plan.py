"""Points 3 and 25 to 27: the fewest wakings, and which waking rings which claim."""

import itertools
import random
import unittest

from helper import GREAT, Case, some_claims
from wakefew.plan import fewest, rung


def unweighed(chance, count, reach, wide):
    return [claim[:3] for claim in some_claims(chance, count, reach, wide, 1)]


def by_the_words(claims):
    """Point 25, sentence by sentence."""
    left, wakings, apart = list(claims), [], []
    while left:
        name, first, last = min(left, key=lambda claim: (claim[2], claim[0]))
        wakings.append(last)
        apart.append(name)
        left = [claim for claim in left if not claim[1] <= last <= claim[2]]
    return wakings, apart


def rings_all(wakings, claims):
    return all(any(first <= waking <= last for waking in wakings) for name, first, last in claims)


class ByHand(Case):
    def test_no_claims(self):
        self.assertEqual(fewest([]), ([], []))
        self.assertIsInstance(fewest([]), tuple)

    def test_one(self):
        self.assertEqual(fewest([("a", 3, 9)]), ([9], ["a"]))
        self.assertEqual(fewest(claims=[("a", 4, 4)]), ([4], ["a"]))
        self.assertEqual(fewest([("a", -9, -3)]), ([-3], ["a"]))

    def test_claims_that_touch_at_one_time_alone(self):
        self.assertEqual(fewest([("a", 1, 5), ("b", 5, 9)]), ([5], ["a"]))
        self.assertEqual(fewest([("a", 1, 5), ("b", 6, 9)]), ([5, 9], ["a", "b"]))
        self.assertEqual(fewest([("b", 5, 5), ("a", 5, 9), ("c", 0, 5)]), ([5], ["b"]))

    def test_several_with_the_same_last_by_name(self):
        self.assertEqual(fewest([("c", 1, 5), ("a", 4, 5), ("b", 2, 5)]), ([5], ["a"]))
        self.assertEqual(fewest([("b", 1, 5), ("ab", 1, 5), ("aa", 9, 9)]), ([5, 9], ["ab", "aa"]))

    def test_one_within_another(self):
        self.assertEqual(fewest([("a", 0, 100), ("b", 10, 20), ("c", 30, 40)]), ([20, 40], ["b", "c"]))

    def test_great_times(self):
        claims = [("a", -GREAT, GREAT), ("b", GREAT - 1, GREAT), ("c", -GREAT, -GREAT)]
        self.assertEqual(fewest(claims), ([-GREAT, GREAT], ["c", "b"]))


class ByTheSentences(Case):
    def hold(self, claims):
        held = list(claims)
        told = fewest(claims)
        self.assertEqual(told, by_the_words(claims))
        self.assertEqual(claims, held)
        wakings, apart = told
        self.assertTrue(rings_all(wakings, claims))
        stretches = sorted((first, last) for name, first, last in claims if name in apart)
        self.assertEqual(len(apart), len(wakings))
        for (first, last), (other_first, other_last) in zip(stretches, stretches[1:]):
            self.assertLess(last, other_first)
        self.assertEqual(fewest(claims), told)
        self.assertEqual(fewest(list(reversed(claims))), told)
        self.assertEqual(fewest(sorted(claims)), told)
        return wakings

    def test_against_all_choices(self):
        for seed in range(150):
            chance = random.Random(seed)
            claims = unweighed(chance, chance.randint(0, 6), 5, chance.choice([0, 2, 6]))
            wakings = self.hold(claims)
            for count in range(min(len(wakings) + 2, 4)):
                for choice in itertools.combinations(range(-6, 13), count):
                    if rings_all(choice, claims):
                        self.assertGreaterEqual(count, len(wakings))
                        for other, waking in zip(choice, wakings):
                            self.assertLessEqual(other, waking)

    def test_many(self):
        for seed in range(60):
            chance = random.Random(seed)
            self.hold(unweighed(chance, chance.randint(1, 60), chance.choice([9, 99, 9999, GREAT]), 40))

    def test_four_hundred(self):
        self.at_once()
        for wide in (0, 9, 10 ** 39):
            self.hold(unweighed(random.Random(wide), 400, 10 ** 39, wide))
        self.hold(unweighed(random.Random(4), 400, 500, 20))


class Rung(Case):
    def test_the_first_that_rings_it_or_none(self):
        claims = [("c", 2, 8), ("a", 5, 5), ("b", 6, 6), ("d", 9, 40), ("e", 31, 99), ("f", -5, 1)]
        self.assertEqual(rung([2, 5, 8, 30], claims), {"c": 2, "a": 5, "b": None, "d": 30, "e": None, "f": None})
        self.assertEqual(rung(wakings=[-5, 6, 31], claims=claims),
                         {"c": 6, "a": None, "b": 6, "d": 31, "e": 31, "f": -5})

    def test_no_wakings_and_no_claims(self):
        self.assertEqual(rung([], [("a", 1, 2)]), {"a": None})
        self.assertEqual(rung([1, 2], []), {})
        self.assertEqual(rung([], []), {})

    def test_in_the_order_of_the_claims(self):
        for names in ("cab", "abc", "bca"):
            claims = [(name, 1, 3) for name in names]
            self.assertEqual(list(rung([2], claims).items()), [(name, 2) for name in names])

    def test_against_the_words(self):
        for seed in range(60):
            chance = random.Random(seed)
            claims = unweighed(chance, chance.randint(0, 12), 20, 9)
            wakings = sorted(chance.sample(range(-25, 30), chance.randint(0, 9)))
            held = list(claims), list(wakings)
            wanted = {name: min((time for time in wakings if first <= time <= last), default=None)
                      for name, first, last in claims}
            self.assertEqual(rung(wakings, claims), wanted)
            self.assertEqual((claims, wakings), held)
            self.assertNotIn(None, rung(fewest(claims)[0], claims).values())

    def test_four_hundred(self):
        self.at_once()
        claims = unweighed(random.Random(7), 400, GREAT, 10 ** 38)
        wakings = sorted(last for name, first, last in claims)
        self.assertTrue(all(time is not None for time in rung(wakings, claims).values()))


class TheAskersOwn(Case):
    def test_what_was_told(self):
        claims = [("a", 1, 5), ("b", 7, 9)]
        told = fewest(claims)
        told[0].clear()
        told[1].append("x")
        self.assertEqual(fewest(claims), ([5, 9], ["a", "b"]))
        answer = rung([5], claims)
        answer["a"] = 99
        self.assertEqual(rung([5], claims), {"a": 5, "b": None})
        claims.clear()
        self.assertEqual(answer, {"a": 99, "b": None})


if __name__ == "__main__":
    unittest.main()

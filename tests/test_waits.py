"""Points 3 and 11 to 14: what a row and wheels of whatever rounds answer alike."""

import random
import unittest

from helper import GREAT, ROUNDS, Case
from wakefew.errors import NoBell, Past, Twice
from wakefew.waits import Row, Waits
from wakefew.wheels import Wheels


def kinds(now=0):
    return [Row(now)] + [Wheels(list(rounds), now) for rounds in ROUNDS]


class OfEachKind(Case):
    def each(self, now=0):
        for wait in kinds(now):
            with self.subTest(type(wait).__name__):
                yield wait

    def test_under_waits(self):
        for wait in self.each():
            self.assertIsInstance(wait, Waits)
        self.assertFalse(issubclass(Row, Wheels) or issubclass(Wheels, Row))

    def test_now_left_out_and_handed_in(self):
        self.assertEqual((Row().now, Wheels([4, 3]).now), (0, 0))
        for now in (0, 1, 7, GREAT):
            self.assertEqual((Row(now).now, Row(now=now).now), (now, now))
            self.assertEqual((Wheels([4, 3], now).now, Wheels(rounds=[4, 3], now=now).now), (now, now))

    def test_nothing_waits(self):
        for wait in self.each(5):
            self.assertEqual((wait.least(), wait.time_of("a"), wait.all_of()), (None, None, []))
            self.assertEqual((wait.due(5), wait.due(900)), ([], []))
            self.assertEqual((wait.now, wait.least(), wait.all_of()), (900, None, []))

    def test_put_waits(self):
        for wait in self.each():
            self.assertIsNone(wait.put("b", 7))
            self.assertIsNone(wait.put(name="a", time=9))
            self.assertEqual((wait.least(), wait.time_of("a"), wait.time_of("b"), wait.time_of("c")), (7, 9, 7, None))
            self.assertEqual((wait.all_of(), wait.now), ([(7, "b"), (9, "a")], 0))

    def test_put_again_is_twice_ahead_of_past(self):
        for wait in self.each(3):
            wait.put("a", 9)
            for time in (9, 10, 4, 3, 2, 0, -5):
                self.refuse(Twice, lambda: wait.put("a", time), "a")
            self.assertEqual((wait.all_of(), wait.now), ([(9, "a")], 3))

    def test_put_at_a_time_that_is_by_or_just_now(self):
        for wait in self.each(3):
            for time in (3, 2, 0, -1, -GREAT):
                self.refuse(Past, lambda: wait.put("a", time))
            self.assertEqual((wait.all_of(), wait.time_of("a"), wait.now), ([], None, 3))
            wait.put("a", 4)
            self.assertEqual(wait.due(4), [(4, "a")])
            self.refuse(Past, lambda: wait.put("a", 4))

    def test_take_tells_the_time(self):
        for wait in self.each():
            wait.put("a", 5)
            wait.put("b", 5)
            wait.put("c", 500)
            self.assertEqual((wait.take("a"), wait.take(name="c")), (5, 500))
            self.assertEqual((wait.all_of(), wait.time_of("a"), wait.least()), ([(5, "b")], None, 5))
            self.assertEqual(wait.due(600), [(5, "b")])

    def test_take_where_none_waits(self):
        for wait in self.each():
            self.refuse(NoBell, lambda: wait.take("a"), "a")
            wait.put("a", 5)
            self.refuse(NoBell, lambda: wait.take("b"), "b")
            wait.take("a")
            self.refuse(NoBell, lambda: wait.take("a"), "a")
            wait.put("a", 5)
            wait.due(5)
            self.refuse(NoBell, lambda: wait.take("a"), "a")

    def test_put_again_behind_a_take_and_behind_due(self):
        for wait in self.each():
            wait.put("a", 5)
            wait.take("a")
            wait.put("a", 6)
            self.assertEqual(wait.due(6), [(6, "a")])
            wait.put("a", 7)
            self.assertEqual((wait.time_of("a"), wait.due(7)), (7, [(7, "a")]))

    def test_due_to_now_and_to_a_time_that_is_by(self):
        for wait in self.each(4):
            wait.put("a", 5)
            self.assertEqual((wait.due(4), wait.now), ([], 4))
            for to in (3, 0, -1):
                self.refuse(Past, lambda: wait.due(to))
            self.assertEqual((wait.now, wait.all_of()), (4, [(5, "a")]))
            self.assertEqual((wait.due(to=5), wait.due(5), wait.now), ([(5, "a")], [], 5))

    def test_due_takes_out_what_is_at_or_ahead_of_it(self):
        for wait in self.each():
            for name, time in (("a", 11), ("b", 10), ("c", 9), ("d", 1)):
                wait.put(name, time)
            self.assertEqual(wait.due(10), [(1, "d"), (9, "c"), (10, "b")])
            self.assertEqual((wait.now, wait.all_of(), wait.least()), (10, [(11, "a")], 11))

    def test_the_order_is_by_time_and_then_by_name(self):
        for wait in self.each():
            for name, time in (("b", 8), ("ab", 8), ("c", 3), ("a", 8), ("aa", 60), ("z", 3), ("y", 60)):
                wait.put(name, time)
            told = [(3, "c"), (3, "z"), (8, "a"), (8, "ab"), (8, "b"), (60, "aa"), (60, "y")]
            self.assertEqual(wait.all_of(), told)
            self.assertEqual(wait.due(GREAT), told)

    def test_far_ahead(self):
        self.at_once()
        for wait in self.each():
            wait.put("a", GREAT)
            wait.put("b", 1)
            self.assertEqual((wait.due(GREAT - 1), wait.least()), ([(1, "b")], GREAT))
            self.assertEqual((wait.due(GREAT), wait.now), ([(GREAT, "a")], GREAT))
            wait.put("a", 10 * GREAT)
            self.assertEqual(wait.due(100 * GREAT), [(10 * GREAT, "a")])

    def test_two_hundred_wait(self):
        for wait in self.each():
            names = [a + b for a in "abcdefghij" for b in "abcdefghijklmnopqrst"]
            for place, name in enumerate(names):
                wait.put(name, 1 + place * 37 % 200)
            self.assertEqual(len(wait.all_of()), 200)
            told = wait.due(100)
            self.assertEqual([time for time, name in told], list(range(1, 101)))
            self.assertEqual([time for time, name in wait.due(200)], list(range(101, 201)))

    def test_what_was_told_is_the_askers_own(self):
        for wait in self.each():
            wait.put("a", 5)
            wait.put("b", 6)
            first, second = wait.all_of(), wait.all_of()
            first.clear()
            second.append((1, "x"))
            self.assertEqual(wait.all_of(), [(5, "a"), (6, "b")])
            told = wait.due(5)
            told.append((6, "b"))
            held = wait.all_of()
            self.assertEqual((held, wait.due(5)), ([(6, "b")], []))
            wait.put("c", 9)
            self.assertEqual((held, told), ([(6, "b")], [(5, "a"), (6, "b")]))

    def test_asked_again(self):
        for wait in self.each():
            wait.put("a", 5)
            answers = [(wait.least(), wait.time_of("a"), wait.time_of("b"), wait.all_of()) for turn in range(3)]
            self.assertEqual(answers, [(5, 5, None, [(5, "a")])] * 3)


def answer(call):
    try:
        return call()
    except (Twice, Past, NoBell) as refusal:
        return type(refusal).__name__, getattr(refusal, "name", None)


class Plain:
    """A plain dict of names and times, and the words of the points over it."""

    def __init__(self, now):
        self.now, self.held = now, {}

    def put(self, name, time):
        if name in self.held:
            return "Twice", name
        if time <= self.now:
            return "Past", None
        self.held[name] = time

    def take(self, name):
        return self.held.pop(name) if name in self.held else ("NoBell", name)

    def due(self, to):
        if to < self.now:
            return "Past", None
        self.now = to
        told = sorted((time, name) for name, time in self.held.items() if time <= to)
        self.held = {name: time for name, time in self.held.items() if time > to}
        return told

    def all_of(self):
        return sorted((time, name) for name, time in self.held.items())


class ManyDeeds(Case):
    def run_deeds(self, seed, reach, now):
        chance = random.Random(seed)
        plain, waits = Plain(now), kinds(now)
        for turn in range(150):
            name = chance.choice("abcdefghijklmnop")
            deed = chance.choice(["put", "put", "put", "take", "due"])
            time = plain.now + chance.randint(-2, chance.choice([3, 20, reach]))
            things = {"put": (name, time), "take": (name,), "due": (time,)}[deed]
            wanted = getattr(plain, deed)(*things)
            for wait in waits:
                told = answer(lambda: getattr(wait, deed)(*things))
                self.assertEqual(told, wanted, (seed, turn, deed, things))
                self.assertEqual((wait.now, wait.all_of()), (plain.now, plain.all_of()))
                self.assertEqual(wait.least(), min(plain.held.values(), default=None))
                self.assertEqual([wait.time_of(sign) for sign in "abq"], [plain.held.get(sign) for sign in "abq"])

    def test_small_steps(self):
        for seed in range(12):
            self.run_deeds(seed, 60, seed)

    def test_great_steps(self):
        for seed in range(12):
            self.run_deeds(seed, 10 ** (4 + 3 * seed), 10 ** seed - 1)


if __name__ == "__main__":
    unittest.main()

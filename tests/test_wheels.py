"""Points 3 and 15 to 18: what wheels tell besides: their rounds, where a thing lies, the bits, the moves."""

import random
import unittest

from helper import GREAT, ROUNDS, Case, name_of
from wakefew.errors import NoBell, NoRounds
from wakefew.wheels import Wheels


class Rounds(Case):
    def test_one_to_six_of_2_to_60(self):
        for count in range(1, 7):
            for slots in (2, 3, 59, 60):
                wheels = Wheels([slots] * count)
                wheels.put("a", slots ** count - 1)
                wheels.put("b", slots ** count)
                self.assertEqual((wheels.wheel_of("a"), wheels.wheel_of("b")), (count - 1, count))
                self.assertEqual([wheels.bits(k) for k in range(count - 1)], [0] * (count - 1))
                self.assertEqual(wheels.bits(count - 1), 2 ** (slots - 1))

    def test_refused(self):
        for rounds in ([], [4] * 7, [1], [61], [0], [-4], [-60], [GREAT], [True], [False], ["4"], [""], [None], [4.0],
                       [[4]], [4, 1], [1, 4], [4, 61], [4, 3, 2, 2, 2, 1], [4, True], [4, "3"], [4, 3, None], [2] * 60):
            with self.subTest(rounds=rounds):
                held = list(rounds)
                self.refuse(NoRounds, lambda: Wheels(rounds))
                self.refuse(NoRounds, lambda: Wheels(rounds, 7))
                self.assertEqual(rounds, held)

    def test_the_list_changed_behind_the_making(self):
        rounds = [4, 3]
        wheels = Wheels(rounds)
        rounds[0] = 60
        rounds.append(2)
        wheels.put("b", 7)
        wheels.put("c", 15)
        self.assertEqual((wheels.wheel_of("b"), wheels.wheel_of("c"), wheels.bits(1)), (1, 2, 2))
        rounds.clear()
        self.assertEqual(wheels.due(6), [])
        self.assertEqual((wheels.wheel_of("b"), wheels.bits(0)), (0, 8))

    def test_the_list_is_not_changed(self):
        rounds = [4, 3]
        wheels = Wheels(rounds)
        wheels.put("a", 30)
        wheels.due(29)
        self.assertEqual(rounds, [4, 3])


class ByHand(Case):
    def test_the_example(self):
        wheels = Wheels([4, 3])
        wheels.put("b", 7)
        wheels.put("c", 15)
        self.assertEqual((wheels.wheel_of("b"), wheels.wheel_of("c")), (1, 2))
        self.assertEqual((wheels.bits(0), wheels.bits(1)), (0, 2))
        self.assertEqual((wheels.moved("b"), wheels.moved("c")), (0, 0))
        self.assertEqual(wheels.due(6), [])
        self.assertEqual((wheels.wheel_of("b"), wheels.bits(0), wheels.bits(1), wheels.moved("b")), (0, 8, 0, 1))
        self.assertEqual((wheels.wheel_of("c"), wheels.moved("c")), (2, 0))
        self.assertEqual(wheels.due(12), [(7, "b")])
        self.assertEqual((wheels.wheel_of("c"), wheels.moved("c")), (0, 1))
        self.assertEqual((wheels.bits(0), wheels.bits(1)), (8, 0))

    def test_no_bell(self):
        wheels = Wheels([4, 3])
        wheels.put("a", 5)
        wheels.put("b", 5)
        wheels.put("c", 1)
        wheels.take("b")
        wheels.due(1)
        for name in ("b", "c", "d"):
            self.refuse(NoBell, lambda: wheels.wheel_of(name), name)
            self.refuse(NoBell, lambda: wheels.moved(name), name)
        self.assertEqual((wheels.wheel_of(name="a"), wheels.moved(name="a")), (1, 0))

    def test_moved_is_told_from_the_last_put_on(self):
        wheels = Wheels([4, 3])
        wheels.put("a", 30)
        wheels.due(26)
        self.assertEqual((wheels.wheel_of("a"), wheels.moved("a")), (1, 1))
        wheels.due(28)
        self.assertEqual((wheels.wheel_of("a"), wheels.moved("a")), (0, 2))
        wheels.take("a")
        wheels.put("a", 32)
        self.assertEqual((wheels.wheel_of("a"), wheels.moved("a")), (1, 0))
        wheels.due(32)
        wheels.put("a", 33)
        self.assertEqual(wheels.moved("a"), 0)

    def test_a_call_counts_once(self):
        wheels = Wheels([2] * 6)
        wheels.put("a", 1000)
        self.assertEqual(wheels.wheel_of("a"), 6)
        wheels.due(999)
        self.assertEqual((wheels.wheel_of("a"), wheels.moved("a")), (3, 1))

    def test_two_in_a_slot_and_one_taken(self):
        wheels = Wheels([4, 3])
        for name, time in (("a", 5), ("b", 6), ("c", 9)):
            wheels.put(name, time)
        self.assertEqual(wheels.bits(1), 6)
        wheels.take("a")
        self.assertEqual(wheels.bits(1), 6)
        wheels.take("b")
        self.assertEqual(wheels.bits(k=1), 4)
        wheels.take("c")
        self.assertEqual((wheels.bits(0), wheels.bits(1)), (0, 0))

    def test_the_last_slot_of_a_wheel_of_sixty(self):
        wheels = Wheels([60, 60])
        wheels.put("a", 59)
        wheels.put("b", 3599)
        self.assertEqual((wheels.bits(0), wheels.bits(1)), (2 ** 59, 2 ** 59))
        self.assertEqual(wheels.due(3540), [(59, "a")])
        self.assertEqual((wheels.bits(0), wheels.bits(1)), (2 ** 59, 0))


class ByTheSentences(Case):
    """Wheels and, beside them, what points 16 to 18 say, told from the times alone."""

    def start(self, rounds, now):
        self.rounds, self.now = list(rounds), now
        self.units = [1]
        for slots in rounds:
            self.units.append(self.units[-1] * slots)
        self.wheels, self.held, self.moves = Wheels(list(rounds), now), {}, {}

    def wheel(self, time, now):
        for k in range(len(self.rounds)):
            if time // self.units[k + 1] == now // self.units[k + 1]:
                return k
        return len(self.rounds)

    def put(self, name, time):
        self.wheels.put(name, time)
        self.held[name], self.moves[name] = time, 0
        self.check()

    def take(self, name):
        self.assertEqual(self.wheels.take(name), self.held.pop(name))
        self.moves.pop(name)
        self.check()

    def due(self, to):
        told = sorted((time, name) for name, time in self.held.items() if time <= to)
        self.assertEqual(self.wheels.due(to), told)
        for time, name in told:
            self.held.pop(name)
            self.moves.pop(name)
        for name, time in self.held.items():
            if self.wheel(time, to) < self.wheel(time, self.now):
                self.moves[name] += 1
        self.now = to
        self.check()

    def check(self):
        masks = [0] * (len(self.rounds) + 1)
        for name, time in self.held.items():
            k = self.wheel(time, self.now)
            self.assertEqual((self.wheels.wheel_of(name), self.wheels.moved(name)), (k, self.moves[name]))
            if k < len(self.rounds):
                masks[k] |= 2 ** (time // self.units[k] % self.rounds[k])
        self.assertEqual([self.wheels.bits(k) for k in range(len(self.rounds))], masks[:-1])
        self.assertEqual(self.wheels.now, self.now)

    def bounds(self):
        """Times just ahead of, at and just behind the bounds of each wheel's round and slots."""
        times = []
        for unit in self.units:
            ahead = (self.now // unit + 1) * unit
            times.extend(bound + more for bound in (ahead, ahead + unit) for more in (-1, 0, 1))
        return sorted(time for time in set(times) if time > self.now)

    def test_at_the_bounds(self):
        for rounds in ROUNDS:
            for now in (0, 1, 11, 12, 59, 60, 10 ** 9):
                self.start(rounds, now)
                for place, time in enumerate(self.bounds()):
                    self.put(name_of(place), time)
                for to in self.bounds():
                    self.due(to)
                self.assertEqual(self.held, {})

    def test_many_deeds(self):
        for seed in range(40):
            chance = random.Random(seed)
            self.start(ROUNDS[seed % len(ROUNDS)], chance.choice([0, 1, 59, 10 ** 6, GREAT]))
            for turn in range(80):
                name = chance.choice("abcdefghijkl")
                ahead = chance.choice(self.bounds() + [self.now + chance.randint(1, 50), self.now + 10 ** 12])
                if chance.random() < 0.25:
                    self.due(chance.choice([self.now, ahead]))
                elif name in self.held:
                    self.take(name)
                else:
                    self.put(name, ahead)

    def test_moved_is_never_more_than_the_wheel_at_the_put(self):
        for rounds in ROUNDS:
            wheels = Wheels(list(rounds), 5)
            wheels.put("a", 3000)
            ahead = wheels.wheel_of("a")
            for to in range(6, 3000):
                wheels.due(to)
                self.assertLessEqual(wheels.moved("a"), ahead)

    def test_forty_figures_in_one_jump(self):
        self.at_once()
        for rounds in ROUNDS:
            self.start(rounds, 0)
            for name, time in (("a", GREAT), ("b", 3), ("c", GREAT - 1), ("d", 10 ** 39)):
                self.put(name, time)
            for to in (GREAT - 2, GREAT):
                self.due(to)

    def test_forty_figures_in_small_steps(self):
        self.at_once()
        for rounds in ROUNDS:
            self.start(rounds, 10 ** 39)
            self.put("a", 10 ** 39 + 100)
            self.put("b", GREAT)
            for step in range(1, 103):
                self.due(10 ** 39 + step)
            self.due(GREAT)


class JumpAndSteps(Case):
    def test_one_jump_and_many_steps_come_to_the_same(self):
        for rounds in ROUNDS:
            chance = random.Random(len(rounds))
            jump, steps = Wheels(list(rounds), 10 ** 39), Wheels(list(rounds), 10 ** 39)
            for place in range(40):
                time = 10 ** 39 + chance.choice([chance.randint(1, 30), chance.randint(1, 500), 10 ** 20 + place])
                jump.put(name_of(place), time)
                steps.put(name_of(place), time)
            told = []
            for to in range(10 ** 39, 10 ** 39 + 301):
                told.extend(steps.due(to))
            self.assertEqual(jump.due(10 ** 39 + 300), told)
            self.assertEqual(jump.all_of(), steps.all_of())
            names = [name for time, name in jump.all_of()]
            self.assertEqual([jump.wheel_of(name) for name in names], [steps.wheel_of(name) for name in names])
            self.assertEqual([jump.bits(k) for k in range(len(rounds))], [steps.bits(k) for k in range(len(rounds))])
            self.assertTrue(all(jump.moved(name) <= 1 for name in names))


if __name__ == "__main__":
    unittest.main()

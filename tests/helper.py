"""What several test files share."""

import signal
import unittest

from wakefew import errors
from wakefew.errors import WakeError
from wakefew.rations import ration
from wakefew.rules import Behind, Each, Once, Slowing

GREAT = 10 ** 40 - 1
SECONDS = 20
ROUNDS = ([2], [60], [4, 3], [2, 2, 2], [10, 6, 24], [7, 5, 3, 2], [2] * 6, [60] * 6)


def name_of(number):
    """Unlike names for unlike numbers from 0 on."""
    signs = ""
    for turn in range(3):
        signs = chr(ord("a") + number % 26) + signs
        number = number // 26
    return signs


def some_claims(chance, count, reach, wide, weight):
    """Claims (name, first, last, weight) of unlike names, in any order."""
    claims = []
    for place in range(count):
        first = chance.randint(-reach, reach)
        claims.append((name_of(place), first, first + chance.randint(0, wide), chance.randint(1, weight)))
    chance.shuffle(claims)
    return claims


def some_rule(chance, clock):
    """A rule that begins somewhere about what the clock shows."""
    start = max(0, clock + chance.randint(-15, 30))
    wide = chance.choice([0, 0, 1, 3, 8])
    many = chance.choice([None, None, 1, 2, 5, 40])
    gap = chance.randint(1, 12)
    kind = chance.choice(["once", "each", "each", "behind", "slowing"])
    if kind == "once":
        return Once(start, start + wide)
    if kind == "each":
        return Each(start, wide + gap, wide, many)
    if kind == "behind":
        return Behind(start, gap, wide, many)
    return Slowing(start, gap, gap + chance.choice([0, 1, 9, 99]), wide, many)


BELLS = ["a", "b", "c", "d", "e", "tea", "night", "house"]
HOMES = ["night", "house", "room", "a"]
KINDS = ("add add add add move put_off let_by take group group sleep wake wake end turn idle go go go ration").split()


def some_deed(chance, keeper):
    """The name of a deed and the things it is handed, about where this keeper is; it may be refused."""
    name, home = chance.choice(BELLS), chance.choice(HOMES)
    clock = keeper.now + keeper.shift
    kind = chance.choice(KINDS)
    if kind == "end" and chance.random() < 0.7:
        kind = "sleep"
    if kind == "add":
        by_day = chance.choice([False, False, True])
        weight = chance.choice([0, 1, 1, 2, 5, 9])
        rule = some_rule(chance, clock if by_day else keeper.now)
        return kind, (name, rule, weight, chance.choice([None, None, home, home]), by_day)
    if kind == "move":
        first = max(0, chance.choice([keeper.now, clock]) + chance.randint(-20, 30))
        return kind, (name, first, max(0, first + chance.randint(-1, 9)))
    if kind == "group":
        return kind, (home, chance.choice([None, chance.choice(HOMES)]))
    if kind in ("let_by", "take"):
        return kind, (name,)
    if kind in ("sleep", "wake", "end"):
        return kind, (home,)
    if kind == "put_off":
        return kind, (name, chance.choice([0, chance.randint(-9, 20), -50]))
    if kind == "turn":
        return kind, (chance.choice([0, chance.randint(-12, 12), chance.randint(-200, 60)]),)
    if kind == "idle":
        return kind, (chance.choice([0, chance.randint(0, 9), chance.randint(0, 60)]),)
    if kind == "ration":
        return kind, (chance.choice([0, 1, 2, 3, 60]),)
    to = keeper.now + chance.choice([0, chance.randint(-1, 9), chance.randint(0, 40)])
    return kind, chance.choice([(to,), (to, chance.randint(1, 4))])


def done(keeper, deed):
    """What a deed tells; where it is refused, the refusal's kind and its name."""
    kind, things = deed
    try:
        return ration(keeper, *things) if kind == "ration" else getattr(keeper, kind)(*things)
    except WakeError as refusal:
        return type(refusal).__name__, getattr(refusal, "name", None)


def state(keeper):
    """All that a keeper can be asked."""
    names = keeper.bells()
    return keeper.now, keeper.shift, names, [keeper.about(name) for name in names], keeper.known(), keeper.ahead()


class Case(unittest.TestCase):
    def refuse(self, kind, call, name=None):
        """call() is refused with just this kind, and with this name, where one is told."""
        with self.assertRaises(WakeError) as taken:
            call()
        kinds = [thing for thing in vars(errors).values() if isinstance(thing, type) and thing is not WakeError]
        self.assertEqual([thing for thing in kinds if isinstance(taken.exception, thing)], [kind])
        if name is not None:
            self.assertEqual(taken.exception.name, name)

    def at_once(self):
        """The test is stopped where it goes through time, or all choices, one by one."""
        def stop(number, frame):
            raise TimeoutError("not told at once")

        held = signal.signal(signal.SIGALRM, stop)
        self.addCleanup(signal.signal, signal.SIGALRM, held)
        signal.alarm(SECONDS)
        self.addCleanup(signal.alarm, 0)

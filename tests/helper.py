"""What several test files share."""

import signal
import unittest

from wakefew import errors
from wakefew.errors import WakeError

GREAT = 10 ** 40 - 1
SECONDS = 20
ROUNDS = ([2], [60], [4, 3], [2, 2, 2], [10, 6, 24], [7, 5, 3, 2], [2] * 6, [60] * 6)


def name_of(number):
    """Unlike names for unlike numbers from 0 on."""
    signs = ""
    for turn in range(3):
        signs = chr(ord("a") + number % 26) + signs
        number = number // 26
    return signs


def some_claims(chance, count, reach, wide, weight):
    """Claims (name, first, last, weight) of unlike names, in any order."""
    claims = []
    for place in range(count):
        first = chance.randint(-reach, reach)
        claims.append((name_of(place), first, first + chance.randint(0, wide), chance.randint(1, weight)))
    chance.shuffle(claims)
    return claims


class Case(unittest.TestCase):
    def refuse(self, kind, call, name=None):
        """call() is refused with just this kind, and with this name, where one is told."""
        with self.assertRaises(WakeError) as taken:
            call()
        kinds = [thing for thing in vars(errors).values() if isinstance(thing, type) and thing is not WakeError]
        self.assertEqual([thing for thing in kinds if isinstance(taken.exception, thing)], [kind])
        if name is not None:
            self.assertEqual(taken.exception.name, name)

    def at_once(self):
        """The test is stopped where it goes through time, or all choices, one by one."""
        def stop(number, frame):
            raise TimeoutError("not told at once")

        held = signal.signal(signal.SIGALRM, stop)
        self.addCleanup(signal.signal, signal.SIGALRM, held)
        signal.alarm(SECONDS)
        self.addCleanup(signal.alarm, 0)

"""Point 2: what a whole number is; and how one is written, whatever its figures."""

import unittest

from wakefew.wholes import figures, is_whole


class IsWhole(unittest.TestCase):
    def test_whole_numbers(self):
        for thing in (0, 1, -1, 2, 7, -60, 10 ** 39, 10 ** 40 - 1, -(10 ** 40 - 1), 10 ** 200):
            with self.subTest(str(thing)):
                self.assertIs(is_whole(thing), True)

    def test_truths_are_none(self):
        self.assertIs(is_whole(True), False)
        self.assertIs(is_whole(False), False)

    def test_things_of_other_kinds_are_none(self):
        for thing in (None, "", "1", "a", [], [1], (), (1,), (1, 2), {}, {1: 1}, 1.0, 0.5):
            with self.subTest(repr(thing)):
                self.assertIs(is_whole(thing), False)

    def test_what_is_handed_in_stays(self):
        row, pairs = [1, [2]], {"a": [1]}
        is_whole(row)
        is_whole(pairs)
        self.assertEqual((row, pairs), ([1, [2]], {"a": [1]}))

    def test_asked_again(self):
        for thing, answer in ((1, True), (True, False), ("1", False)):
            self.assertEqual([is_whole(thing=thing) for turn in range(3)], [answer] * 3)


class Figures(unittest.TestCase):
    def test_as_python_writes_it(self):
        edges = [10 ** size + more for size in (0, 1, 63, 64, 65, 127, 128, 129, 300) for more in (-1, 0, 1)]
        for number in edges:
            self.assertEqual(figures(number), str(number))
            self.assertEqual(figures(-number), str(-number))

    def test_more_figures_than_python_writes(self):
        self.assertEqual(figures(10 ** 5000), "1" + "0" * 5000)
        self.assertEqual(figures(7 - 10 ** 5000), "-" + "9" * 4999 + "3")


if __name__ == "__main__":
    unittest.main()

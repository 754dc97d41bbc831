"""Points 3 and 43: names, numbers and rules read from texts."""

import unittest

from helper import GREAT, Case
from wakefew.errors import NoText
from wakefew.rules import Behind, Each, Once, Slowing
from wakefew.words import is_name, read_rule, read_whole

NO_TEXTS = (None, True, False, 0, 5, -5, [], ["5"], ("5",), {}, {"5": 5}, 5.0, b"5")


class Names(Case):
    def test_names(self):
        for thing in ("a", "z", "tea", "abcdefgh", "zzzzzzzz", "ever", "none"):
            self.assertIs(is_name(thing), True)
        self.assertIs(is_name(thing="tea"), True)

    def test_texts_that_are_none(self):
        for thing in ("", "abcdefghi", "a" * 60, "A", "Tea", "teA", "tea1", "1", "te a", " tea", "tea ", "tea\n",
                      "\ttea", "-", "te-a", "te_a", "{", "`", "~", "@", "[", "a\n", "\n"):
            self.assertIs(is_name(thing), False, thing)

    def test_what_is_no_text(self):
        for thing in NO_TEXTS + (["a"], ("a",), {"a": "a"}, ["t", "e", "a"]):
            self.assertIs(is_name(thing), False)


class Numbers(Case):
    def test_numbers(self):
        for number in (0, 1, -1, 7, 10, -10, 100, 909, -12345, GREAT, -GREAT, 10 ** 40, 10 ** 59, 10 ** 60 - 1,
                       -(10 ** 60 - 1), -(10 ** 59)):
            self.assertEqual(read_whole(str(number)), number)
            self.assertIs(type(read_whole(text=str(number))), int)

    def test_written_otherwise(self):
        for text in ("", "-", "-0", "00", "01", "-01", "007", "+5", "+0", "--5", "-+5", "5-", " 5", "5 ", "- 5", "5 5",
                     "5\n", "\t5", "\n", " ", "1_000", "1,000", "1.0", "1.", ".5", "1e3", "0x10", "0b1", "0o7", "five",
                     "5a", "a5", "ever", "none", "''", "/", ":", "1:", "1/"):
            with self.subTest(text):
                self.refuse(NoText, lambda: read_whole(text))

    def test_sixty_figures_and_one_more(self):
        self.assertEqual(read_whole("9" * 60), 10 ** 60 - 1)
        self.assertEqual(read_whole("-" + "9" * 60), 1 - 10 ** 60)
        for text in ("9" * 61, "-" + "9" * 61, "1" + "0" * 60, "0" * 60, "9" * 5000, "-" + "9" * 5000, "x" * 5000):
            self.refuse(NoText, lambda: read_whole(text))

    def test_what_is_no_text(self):
        for thing in NO_TEXTS:
            self.refuse(NoText, lambda: read_whole(thing))


RULES = (
    Once(0), Once(3, 9), Once(GREAT), Each(0, 7, 2), Each(1, 7, 2, 5), Each(0, 1, 0, 1), Behind(0, 1), Behind(1, 7,
    20, 5), Slowing(0, 2, 10, 1), Slowing(1, 7, 30, 2, 5), Slowing(GREAT, GREAT, GREAT, GREAT, GREAT), Each(5, GREAT,
9, GREAT), )


class Rules(Case):
    def test_the_words_of_each_kind_read_again(self):
        for rule in RULES:
            told = read_rule(rule.words())
            self.assertIs(type(told), type(rule))
            self.assertEqual((told.words(), told.many, told.begin()), (rule.words(), rule.many, rule.begin()))
            self.assertEqual(told.let_by(0, 5, 900), rule.let_by(0, 5, 900))
        self.assertEqual(read_rule(text="each 0 7 2 ever").words(), "each 0 7 2 ever")

    def test_sixty_figures(self):
        text = f"behind {'9' * 60} {'9' * 60} 0 ever"
        self.assertEqual(read_rule(text).words(), text)
        self.refuse(NoText, lambda: read_rule(f"behind {'9' * 61} 1 0 ever"))

    def test_a_word_missing_or_too_many(self):
        for rule in RULES:
            words = rule.words().split(" ")
            for place in range(len(words)):
                self.refuse(NoText, lambda: read_rule(" ".join(words[:place] + words[place + 1:])))
            self.refuse(NoText, lambda: read_rule(" ".join(words + ["1"])))
            self.refuse(NoText, lambda: read_rule(" ".join(words + ["ever"])))

    def test_blanks(self):
        for rule in RULES:
            text = rule.words()
            for other in (" " + text, text + " ", text.replace(" ", "  ", 1), text.replace(" ", "\t", 1), text + "\n",
                          text.replace(" ", "\n"), "  ".join(text.rsplit(" ", 1))):
                self.refuse(NoText, lambda: read_rule(other))

    def test_a_kind_that_is_none(self):
        for text in ("", " ", "once", "Once 3 9", "ONCE 3 9", "never 3 9", "each", "ever", "rule 0 7 2 ever",
                     "0 7 2 ever", "eac 0 7 2 ever", "each0 7 2 ever", "slow 0 2 10 1 ever"):
            self.refuse(NoText, lambda: read_rule(text))

    def test_numbers_written_otherwise(self):
        for text in ("once 03 9", "once 3 +9", "once 3 -0", "once 3 nine", "once 3 ever", "once ever 3", "once 3 none",
                     "each 0 07 2 ever", "each 0 7 2 Ever", "each 0 7 2 none", "each 0 7 ever ever",
                     "each ever 7 2 ever", "behind 0 ever 2 3", "slowing 0 2 ever 1 3", "slowing 0 2 10 ever 3",
                     "each 0 7 2 -"):
            self.refuse(NoText, lambda: read_rule(text))

    def test_a_rule_that_is_refused(self):
        for text in ("once -1 9", "once 9 3", "once -9 -3", "each -1 7 2 ever", "each 0 0 0 ever", "each 0 7 7 ever",
                     "each 0 7 -1 ever", "each 0 7 2 0", "each 0 7 2 -3", "behind 0 0 2 ever", "behind 0 7 -2 ever",
                     "behind -1 7 2 ever", "behind 0 7 2 0", "slowing 0 2 1 1 ever", "slowing 0 0 0 1 ever",
                     "slowing -1 2 10 1 ever", "slowing 0 2 10 -1 ever", "slowing 0 2 10 1 0"):
            self.refuse(NoText, lambda: read_rule(text))

    def test_what_is_no_text(self):
        for thing in NO_TEXTS + (["once", "3", "9"], Once(3, 9)):
            self.refuse(NoText, lambda: read_rule(thing))


if __name__ == "__main__":
    unittest.main()

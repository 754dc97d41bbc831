"""Points 3, 4 and 44 to 46: a keeper kept as a text, and one that comes up from it."""

import random
import unittest

from helper import GREAT, Case, done, some_deed, state
from wakefew.errors import NoText, NoTime
from wakefew.kept import come_up, kept
from wakefew.keeper import Keeper
from wakefew.rules import Behind, Each, Once, Slowing


def rich():
    """A keeper with groups asleep and awake, and bells of all kinds."""
    keeper = Keeper([10, 6], 3)
    keeper.turn(40)
    for name, above in (("top", None), ("left", "top"), ("alone", None), ("deep", "left"), ("apart", "top")):
        keeper.group(name, above)
    keeper.add("e", Each(5, 10, 4), 2)
    keeper.add("d", Each(50, 10, 4, 7), 3, "apart", True)
    keeper.add("c", Behind(9, 7, 2), 4, "left")
    keeper.add("b", Slowing(60, 2, 9, 3), 5, "deep", True)
    keeper.add("a", Once(8, 90), 6, "alone")
    keeper.sleep("left")
    keeper.go(12)
    keeper.move("d", 70, 99)
    keeper.sleep("deep")
    return keeper


RICH = """now 12 shift 40 rounds 10 6
group alone - awake
group top - awake
group apart top awake
group left top asleep
group deep left asleep
bell b 5 deep day 0 60 63 - slowing 60 2 9 3 ever
bell c 4 left gone 0 9 11 - behind 9 7 2 ever
bell d 3 apart day 0 70 99 30 each 50 10 4 7
bell e 2 - gone 1 15 19 15 each 5 10 4 ever"""


class Kept(Case):
    def test_the_example(self):
        keeper = Keeper()
        keeper.group("a")
        keeper.sleep("a")
        keeper.add("b", Each(0, 10, 4), 2)
        self.assertEqual(kept(keeper), (
            "now 0 shift 0 rounds none\ngroup a - asleep\nbell b 2 - gone 0 0 4 1 each 0 10 4 ever"))

    def test_nothing_in_it(self):
        self.assertEqual(kept(Keeper()), "now 0 shift 0 rounds none")
        self.assertEqual(kept(keeper=Keeper([4], 7)), "now 7 shift 0 rounds 4")
        keeper = Keeper([60, 2, 3, 4, 5, 6], GREAT)
        keeper.turn(-GREAT)
        self.assertEqual(kept(keeper), f"now {GREAT} shift -{GREAT} rounds 60 2 3 4 5 6")

    def test_groups_and_bells_of_all_kinds(self):
        self.assertEqual(kept(rich()), RICH)

    def test_asked_again(self):
        keeper = rich()
        held = state(keeper)
        self.assertEqual(kept(keeper), kept(keeper))
        self.assertEqual(state(keeper), held)

    def test_since_stays_as_time_goes_by(self):
        keeper = Keeper()
        keeper.add("a", Once(2, 30))
        keeper.go(10)
        self.assertEqual(kept(keeper), "now 10 shift 0 rounds none\nbell a 1 - gone 0 2 30 2 once 2 30")
        keeper.put_off("a", 0)
        self.assertEqual(kept(keeper), "now 10 shift 0 rounds none\nbell a 1 - gone 0 2 30 11 once 2 30")

    def test_more_figures_than_python_writes(self):
        keeper = Keeper()
        keeper.idle(10 ** 5000)
        self.assertEqual(kept(keeper), "now 1" + "0" * 5000 + " shift 0 rounds none")


class ComingUp(Case):
    def test_told(self):
        told = come_up(RICH)
        self.assertIsInstance(told, tuple)
        keeper, entries = told
        self.assertIsInstance(keeper, Keeper)
        self.assertEqual((entries, kept(keeper), state(keeper)), ([], RICH, state(rich())))

    def test_a_pause(self):
        keeper, entries = come_up(text=RICH, pause=90)
        other = rich()
        self.assertEqual(entries, other.idle(90))
        self.assertEqual(entries, [("missed", "d", 0, 6), ("over", "d"), ("missed", "e", 1, 9)])
        self.assertEqual((state(keeper), kept(keeper)), (state(other), kept(other)))
        self.assertEqual(come_up(RICH, 0)[1], [])

    def test_the_keeper_that_was_kept_stays_as_it_is(self):
        keeper = rich()
        other = come_up(kept(keeper))[0]
        other.go(500)
        other.end("top")
        self.assertEqual(kept(keeper), RICH)

    def test_each_comes_up_by_itself(self):
        one, other = come_up(RICH)[0], come_up(RICH)[0]
        one.go(500)
        self.assertEqual(kept(other), RICH)

    def test_sixty_figures(self):
        nines = "9" * 60
        text = f"now {nines} shift -{nines} rounds none\nbell a {nines} - day 0 0 {nines} {nines} each 0 {nines} 5 ever"
        self.assertEqual(kept(come_up(text)[0]), text)

    def test_rows_of_deeds_go_on_the_same(self):
        for seed in range(80):
            chance = random.Random(seed)
            keeper = Keeper(chance.choice([None, [4, 3], [60], [2] * 6]), chance.choice([0, 5, GREAT]))
            other = come_up(kept(keeper))[0]
            for turn in range(100):
                deed = some_deed(chance, keeper)
                self.assertEqual(done(other, deed), done(keeper, deed))
                self.assertEqual((state(other), kept(other)), (state(keeper), kept(keeper)))
                if chance.random() < 0.3:
                    pause = chance.choice([0, 0, 3, 30])
                    other, entries = come_up(kept(keeper), pause)
                    self.assertEqual(entries, keeper.idle(pause))
                    self.assertEqual((state(other), kept(other)), (state(keeper), kept(keeper)))


HEAD = "now 5 shift 0 rounds none"
GROUP = "group g - awake"
BELL = "bell a 1 - gone 0 6 9 6 each 6 10 3 4"


class Refused(Case):
    def good(self, *rows):
        text = "\n".join(rows)
        self.assertEqual(kept(come_up(text)[0]), text)

    def bad(self, *rows):
        text = "\n".join(rows)
        with self.subTest(text):
            self.refuse(NoText, lambda: come_up(text))
            self.refuse(NoText, lambda: come_up(text, -1))

    def test_what_is_no_text(self):
        for thing in (None, 5, True, [], [HEAD], (HEAD,), {}, Keeper(), b"now 5 shift 0 rounds none"):
            self.refuse(NoText, lambda: come_up(thing))
            self.refuse(NoText, lambda: come_up(thing, -1))

    def test_the_good_ones(self):
        self.good(HEAD)
        self.good(HEAD, GROUP)
        self.good(HEAD, BELL)
        self.good(HEAD, GROUP, BELL)
        self.good(HEAD, GROUP, "group h g asleep", BELL, "bell b 1 g day 3 6 9 6 each 6 10 3 4",
                  "bell c 1 h gone 0 0 0 - once 0 0")

    def test_no_rows_and_rows_without_words(self):
        for text in ("", " ", "\n", "now", "x"):
            self.bad(text)
        self.bad(HEAD, "")
        self.bad("", HEAD)
        self.bad(HEAD, "", BELL)
        self.bad(HEAD, GROUP, BELL, "")
        self.bad(HEAD.replace(" ", "\t"))
        self.bad(HEAD + "\r", BELL)

    def test_a_word_missing_or_too_many(self):
        rows = [HEAD, GROUP, BELL]
        for place, row in enumerate(rows):
            words = row.split(" ")
            for at in range(len(words)):
                for other in (words[:at] + words[at + 1:], words[:at] + [""] + words[at:],
                              words[:at] + ["x"] + words[at:], words[:at] + ["7"] + words[at:], words[:at]):
                    self.bad(*(rows[:place] + [" ".join(other)] + rows[place + 1:]))
            for other in (row + " ", " " + row, row + " x", row + " 7", row + " -"):
                self.bad(*(rows[:place] + [other] + rows[place + 1:]))

    def test_words_of_the_first_row(self):
        for row in ("Now 5 shift 0 rounds none", "then 5 shift 0 rounds none", "now 5 turn 0 rounds none",
                    "now 5 Shift 0 rounds none", "now 5 shift 0 round none", "now 5 shift 0 none none",
                    "shift 0 now 5 rounds none", "now 5 rounds none shift 0", "bell 5 shift 0 rounds none"):
            self.bad(row)
            self.bad(row, BELL)

    def test_rows_out_of_their_order(self):
        self.bad(GROUP, HEAD)
        self.bad(BELL, HEAD)
        self.bad(GROUP)
        self.bad(BELL)
        self.bad(GROUP, BELL)
        self.bad(HEAD, HEAD)
        self.bad(HEAD, GROUP, HEAD)
        self.bad(HEAD, BELL, HEAD)
        self.bad(HEAD, BELL, GROUP)
        self.bad(HEAD, "more g - awake")
        self.bad(HEAD, BELL.replace("bell", "bells"))

    def test_numbers_written_otherwise(self):
        for word in ("05", "+5", "-0", "5.0", "five", "", "-", "5_0", "9" * 61, "ever", "none"):
            self.bad(f"now {word} shift 0 rounds none")
            self.bad(f"now 5 shift {word} rounds none")
            self.bad(HEAD, f"bell a {word} - gone 0 6 9 6 each 6 10 3 4")
            self.bad(HEAD, f"bell a 1 - gone {word} 6 9 6 each 6 10 3 4")
            self.bad(HEAD, f"bell a 1 - gone 0 {word} 9 6 each 6 10 3 4")
            self.bad(HEAD, f"bell a 1 - gone 0 6 {word} 6 each 6 10 3 4")
            self.bad(HEAD, f"bell a 1 - gone 0 6 9 {word} each 6 10 3 4")
            self.bad(HEAD, f"bell a 1 - gone 0 6 9 6 each {word} 10 3 4")
            if word != "none":
                self.bad(f"now 5 shift 0 rounds {word}")
            self.bad(f"now 5 shift 0 rounds 4 {word}")

    def test_a_name_that_is_none(self):
        for word in ("A", "a1", "abcdefghi", "", "-", "5", "a-"):
            self.bad(HEAD, f"group {word} - awake")
            self.bad(HEAD, f"bell {word} 1 - gone 0 6 9 6 each 6 10 3 4")
            if word != "-":
                self.bad(HEAD, f"group g {word} awake")
                self.bad(HEAD, f"bell a 1 {word} gone 0 6 9 6 each 6 10 3 4")

    def test_a_mark_a_clock_or_a_rule_that_is_none(self):
        for word in ("Awake", "sleep", "-", "0", "", "gone"):
            self.bad(HEAD, f"group g - {word}")
        for word in ("Gone", "night", "-", "0", "", "awake"):
            self.bad(HEAD, f"bell a 1 - {word} 0 6 9 6 each 6 10 3 4")
        for rule in ("each", "each 6 10 3", "each 6 10 3 4 5", "none 6 10 3 4", "each 6 10 10 4", "each 6 0 0 4",
                     "each 6 10 3 0", "each -6 10 3 4", "once 9 6", "behind 6 0 3 4", "slowing 6 5 4 3 ever",
                     "each 6 10 3 Ever", "-", ""):
            self.bad(HEAD, f"bell a 1 - gone 0 6 9 6 {rule}")

    def test_rounds_that_are_refused(self):
        for rounds in ("1", "61", "0", "-4", "4 1", "4 3 2 2 2 2 2", "4 none", "none 4", "none none", "None", "[4]",
                       "4,3"):
            self.bad(f"now 5 shift 0 rounds {rounds}")
        self.good("now 5 shift 0 rounds 4 3 2 2 2 60")

    def test_now_or_the_days_clock_below_nought(self):
        self.bad("now -1 shift 0 rounds none")
        self.bad("now -1 shift 9 rounds none")
        self.bad("now 5 shift -6 rounds none")
        self.good("now 5 shift -5 rounds none")

    def test_told_twice(self):
        self.bad(HEAD, GROUP, GROUP)
        self.bad(HEAD, GROUP, "group h - awake", "group g h asleep")
        self.bad(HEAD, BELL, BELL)
        self.bad(HEAD, BELL, "bell a 2 - day 0 7 9 7 once 7 9")
        asleep = "bell a 1 g gone 0 6 9 - each 6 10 3 4"
        self.bad(HEAD, "group g - asleep", asleep, asleep)
        self.bad(HEAD, "group g - asleep", BELL, asleep)
        self.bad(HEAD, "group g - asleep", asleep, BELL)

    def test_not_told_in_a_row_ahead(self):
        self.bad(HEAD, "group h g awake")
        self.bad(HEAD, "group h g awake", GROUP)
        self.bad(HEAD, "group g g awake")
        self.bad(HEAD, "bell a 1 g gone 0 6 9 6 each 6 10 3 4")
        self.bad(HEAD, "bell a 1 a gone 0 6 9 6 each 6 10 3 4")

    def test_deeper_than_eight(self):
        rows = [HEAD, "group a - awake"] + [f"group {name} {above} awake" for above, name in zip("abcdefg", "bcdefgh")]
        self.good(*rows)
        self.bad(*rows, "group i h awake")

    def test_a_weight_below_1(self):
        for weight in ("0", "-1", "-9"):
            self.bad(HEAD, f"bell a {weight} - gone 0 6 9 6 each 6 10 3 4")

    def test_the_number_of_the_next_time(self):
        self.good(HEAD, "bell a 1 - gone 3 6 9 6 each 6 10 3 4")
        self.good(HEAD, "bell a 1 - gone 99 6 9 6 each 6 10 3 ever")
        for number in ("-1", "4", "5", "99"):
            self.bad(HEAD, f"bell a 1 - gone {number} 6 9 6 each 6 10 3 4")
        self.bad(HEAD, "bell a 1 - gone 1 6 9 6 once 6 9")
        self.bad(HEAD, "bell a 1 - gone -1 6 9 6 each 6 10 3 ever")

    def test_the_stretch(self):
        self.good(HEAD, "bell a 1 - gone 0 0 6 6 each 6 10 3 4")
        self.good(HEAD, "bell a 1 - gone 0 6 6 6 each 6 10 3 4")
        self.bad(HEAD, "bell a 1 - gone 0 -1 9 6 each 6 10 3 4")
        self.bad(HEAD, "bell a 1 - gone 0 10 9 10 each 6 10 3 4")

    def test_since_and_the_sleep(self):
        self.good(HEAD, "group g - asleep", "bell a 1 g gone 0 6 9 - each 6 10 3 4")
        self.good(HEAD, "group g - asleep", "group h g awake", "bell a 1 h gone 0 0 3 - each 6 10 3 4")
        self.bad(HEAD, "bell a 1 - gone 0 6 9 - each 6 10 3 4")
        self.bad(HEAD, GROUP, "bell a 1 g gone 0 6 9 - each 6 10 3 4")
        self.bad(HEAD, "group g - asleep", "bell a 1 g gone 0 6 9 6 each 6 10 3 4")
        self.bad(HEAD, "group g - asleep", "group h g awake", "bell a 1 h gone 0 6 9 6 each 6 10 3 4")
        self.bad(HEAD, "group g - asleep", "bell a 1 g gone 0 6 9 x each 6 10 3 4")

    def test_a_pause_below_nought(self):
        for pause in (-1, -GREAT):
            self.refuse(NoTime, lambda: come_up(HEAD, pause))
            self.refuse(NoTime, lambda: come_up(RICH, pause))
            self.refuse(NoText, lambda: come_up(RICH + "\n", pause))


if __name__ == "__main__":
    unittest.main()

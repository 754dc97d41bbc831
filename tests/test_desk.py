"""Points 3, 4 and 47 to 52: the desk, its rows, its questions, its answers."""

import random
import unittest

from helper import GREAT, ROUNDS, Case, done, some_deed
from wakefew.desk import Desk
from wakefew.errors import NoBell, NoGroup, NoRounds, NoRow, NoRule, NoStretch, NoTime, NoWeight, Past, TooDeep, Twice
from wakefew.errors import WakeError
from wakefew.kept import kept
from wakefew.keeper import Keeper


def told(desk, *rows):
    answers = []
    for row in rows:
        answers.extend(desk.say(row))
    return answers


def small():
    desk = Desk()
    told(desk, "group g -", "bell tea 2 - gone each 3 10 6 ever", "bell cat 1 g day behind 5 20 2 3")
    return desk


class Making(Case):
    def test_rounds(self):
        self.assertEqual(Desk().say("keep"), ["now 0 shift 0 rounds none"])
        self.assertEqual(Desk(None).say("clock"), ["0 0"])
        self.assertEqual(Desk(rounds=[4, 3]).say("keep"), ["now 0 shift 0 rounds 4 3"])
        for rounds in ([], [1], [61], [4] * 7, [True], ["4"]):
            self.refuse(NoRounds, lambda: Desk(rounds))

    def test_rounds_changed_behind_the_making(self):
        rounds = [4, 3]
        desk = Desk(rounds)
        rounds.append(1)
        self.assertEqual(told(desk, "up 0", "keep"), ["now 0 shift 0 rounds 4 3"])


class Deeds(Case):
    def test_bell(self):
        desk = Desk()
        self.assertEqual(told(desk, "go 20", "group g -", "turn 100"), [])
        self.assertEqual(desk.say("bell a 2 - gone each 0 10 3 ever"), ["missed a 0 1"])
        self.assertEqual(desk.say("bell b 1 g day once 110 130"), [])
        self.assertEqual(desk.say("bell c 1 g gone once 3 9"), ["missed c 0 0", "over c"])
        self.assertEqual(desk.say("bell d 1 - day slowing 0 2 10 1 3"), ["missed d 0 2", "over d"])
        self.assertEqual(desk.say("bell e 9 - gone behind 30 5 2 ever"), [])
        self.assertEqual(desk.say("known"), ["a 21 23 2", "b 21 30 1", "e 30 32 9"])

    def test_move_off_let_take(self):
        desk = small()
        self.assertEqual(told(desk, "move tea 20 30", "about tea"), ["0 20 30"])
        self.assertEqual(told(desk, "off tea -5", "about tea", "off tea 0", "about tea"), ["0 15 25", "0 15 25"])
        self.assertEqual(told(desk, "off tea 7", "about tea"), ["0 22 32"])
        self.assertEqual(told(desk, "let tea", "about tea"), ["gave tea 0", "1 13 19"])
        self.assertEqual(told(desk, "take tea", "bells"), ["dropped tea 1", "cat"])

    def test_groups(self):
        desk = small()
        self.assertEqual(told(desk, "group h g", "bell sub 1 h gone once 4 8", "sleep g", "known"), ["tea 3 9 2"])
        self.assertEqual(told(desk, "go 12"), ["woke 9 tea", "rang tea 0 9 3 9"])
        self.assertEqual(told(desk, "wake g"), ["missed cat 0 0", "missed sub 0 0", "over sub"])
        self.assertEqual(told(desk, "end g", "bells"), ["dropped cat 1", "tea"])

    def test_turn(self):
        desk = small()
        self.assertEqual(told(desk, "turn 8", "clock"), ["missed cat 0 0", "0 8"])
        self.assertEqual(told(desk, "turn -8", "clock", "known"), ["0 0", "cat 27 29 1", "tea 3 9 2"])

    def test_go(self):
        desk = small()
        self.assertEqual(desk.say("go 8"), ["woke 7 cat", "rang tea 0 7 3 9", "rang cat 0 7 5 7"])
        self.assertEqual(desk.say("clock"), ["8 8"])
        self.assertEqual(desk.say("go 60 1"), ["woke 19 tea", "rang tea 1 19 13 19"])
        self.assertEqual(desk.say("clock"), ["19 19"])
        self.assertEqual(desk.say("go 19 60"), [])

    def test_go_stops_behind_sixty_wakings(self):
        desk = Desk()
        told(desk, "bell a 1 - gone each 1 1 0 ever")
        self.assertEqual((len(desk.say("go 100")), desk.say("clock")), (120, ["60 60"]))

    def test_ration(self):
        desk = Desk()
        told(desk, "bell a 2 - gone each 1 10 3 ever", "bell b 5 - gone each 3 10 3 ever", "bell c 5 - gone once 5 9")
        self.assertEqual(told(desk, "ration 1", "ration 9"), ["gave a 0"])
        self.assertEqual(desk.say("ration 0"), ["gave a 1", "gave b 0", "gave c 0", "over c"])

    def test_up(self):
        desk = small()
        self.assertEqual(told(desk, "sleep g", "up 25"), ["missed tea 0 1"])
        self.assertEqual(told(desk, "clock", "known"), ["25 25", "tea 26 29 2"])
        self.assertEqual(told(desk, "up 0", "wake g", "go 30"), [
            "missed cat 0 0", "woke 29 cat", "rang tea 2 29 26 29", "rang cat 1 29 27 29"])

    def test_great_numbers_are_written(self):
        desk = Desk()
        self.assertEqual(desk.say(f"bell a 1 - gone once {GREAT} {GREAT}"), [])
        self.assertEqual(desk.say(f"go {GREAT}"), [f"woke {GREAT} a", f"rang a 0 {GREAT} {GREAT} {GREAT}", "over a"])
        self.assertEqual(desk.say(f"turn {GREAT}"), [])
        self.assertEqual(desk.say("clock"), [f"{GREAT} {2 * GREAT}"])
        nines = "9" * 60
        self.assertEqual(told(desk, f"go {nines}", "clock"), [f"{nines} {10 ** 60 - 1 + GREAT}"])


class Questions(Case):
    def test_each(self):
        desk = small()
        self.assertEqual(desk.say("ahead"), ["wake 7 cat"])
        desk.say("bell late 4 - gone once 50 60")
        self.assertEqual(desk.say("ahead"), ["wake 7 cat", "wake 60 late"])
        self.assertEqual(desk.say("known"), ["cat 5 7 1", "late 50 60 4", "tea 3 9 2"])
        self.assertEqual(desk.say("bells"), ["cat", "late", "tea"])
        self.assertEqual(desk.say("about cat"), ["0 5 7"])
        self.assertEqual(told(desk, "go 2", "turn 5", "clock"), ["missed cat 0 0", "2 7"])
        self.assertEqual(desk.say("keep"), [
            "now 2 shift 5 rounds none", "group g - awake", "bell cat 1 g day 1 27 29 22 behind 5 20 2 3",
            "bell late 4 - gone 0 50 60 50 once 50 60", "bell tea 2 - gone 0 3 9 3 each 3 10 6 ever"])

    def test_of_an_empty_desk(self):
        desk = Desk()
        for row, answer in (("ahead", []), ("known", []), ("bells", []), ("clock", ["0 0"]),
                            ("keep", ["now 0 shift 0 rounds none"])):
            self.assertEqual(desk.say(row=row), answer)

    def test_asked_twice_and_changed_by_the_asker(self):
        desk = small()
        for row in ("ahead", "known", "bells", "about tea", "clock", "keep"):
            first = desk.say(row)
            held = list(first)
            first.clear()
            self.assertEqual(desk.say(row), held)
        desk.say("go 8").clear()
        self.assertEqual(desk.say("clock"), ["8 8"])


ROWS = (
    "bell a 1 - gone once 5 9", "bell a 1 g day each 0 10 3 ever", "bell a 1 g gone each 0 10 3 4",
    "bell a 1 - gone behind 0 7 2 ever", "bell a 1 - day slowing 0 2 10 1 3", "move tea 30 40", "off tea 5",
    "off tea -3", "take tea", "let tea", "group h g", "group h -", "sleep g", "wake g", "end g", "turn 5", "turn -1",
    "go 9", "go 9 60", "go 9 1", "ration 3", "ration 0", "up 4", "up 0", "ahead", "known", "bells", "about tea",
"clock", "keep", )


class NoRows(Case):
    def start(self):
        desk = small()
        desk.say("go 3")
        return desk

    def refuse_row(self, row):
        desk = self.start()
        held = desk.say("keep")
        with self.subTest(row):
            self.refuse(NoRow, lambda: desk.say(row))
            self.assertEqual(desk.say("keep"), held)

    def test_all_of_them_are_rows(self):
        for row in ROWS:
            self.assertIsInstance(self.start().say(row), list)

    def test_a_word_missing(self):
        for row in ROWS:
            words = row.split(" ")
            for place in range(len(words)):
                other = " ".join(words[:place] + words[place + 1:])
                if other != "go 60" and other != "go 1" and other != "go 9":
                    self.refuse_row(other)

    def test_a_word_too_many(self):
        for row in ROWS:
            for word in ("x", "7", "-", "ever", "100"):
                if (row, word) != ("go 9", "7"):
                    self.refuse_row(f"{row} {word}")
            self.refuse_row(f"x {row}")

    def test_a_word_without_signs(self):
        for row in ROWS:
            words = row.split(" ")
            for place in range(len(words) + 1):
                self.refuse_row(" ".join(words[:place] + [""] + words[place:]))
            for place in range(len(words)):
                self.refuse_row(" ".join(words[:place] + [""] + words[place + 1:]))

    def test_other_signs_about_it(self):
        for row in ROWS:
            for other in (row + "\n", "\n" + row, row + "\t", row.upper(), row.replace(" ", "\t"), row + "\n" + row):
                if other != row:
                    self.refuse_row(other)

    def test_first_words_that_are_none(self):
        for row in ("", " ", "  ", "x", "add a 1", "idle 5", "put_off tea 5", "let_by tea", "rings", "BELLS", "bell",
                    "go", "now", "ration", "up", "keeps", "none", "0", "-", "\n"):
            self.refuse_row(row)

    def test_what_is_no_text(self):
        for thing in (None, True, 5, [], ["bells"], ("bells",), {}, {"bells": 1}, b"bells"):
            self.refuse_row(thing)

    def test_a_number_out_of_its_bounds(self):
        for row in ("bell a -1 - gone once 5 9", "move tea -1 5", "move tea 5 -1", "go -1", "go -1 5", "go 9 0",
                    "go 9 61", "go 9 -1", "go 9 600", "ration -1", "up -1", "bell a 1 - gone once -1 9",
                    "bell a 1 - gone once 5 -9", "bell a 1 - gone each -1 10 3 ever",
                    "bell a 1 - gone each 0 -10 3 ever", "bell a 1 - gone each 0 10 -3 ever",
                    "bell a 1 - gone each 0 10 3 -4", "bell a 1 - gone behind 0 -7 2 ever",
                    "bell a 1 - gone slowing 0 2 -10 1 3"):
            self.refuse_row(row)

    def test_a_number_written_otherwise(self):
        forms = ("bell a {} - gone once 5 9", "bell a 1 - gone once {} 9", "bell a 1 - gone once 5 {}",
                 "bell a 1 - gone each {} 10 3 4", "bell a 1 - gone each 0 {} 3 4", "bell a 1 - gone each 0 10 {} 4",
                 "bell a 1 - gone each 0 10 3 {}", "bell a 1 - gone behind {} 7 2 4", "bell a 1 - gone behind 0 {} 2 4",
                 "bell a 1 - gone slowing 0 2 {} 1 3", "move tea {} 40", "move tea 30 {}", "off tea {}", "turn {}",
                 "go {}", "go {} 5", "go 9 {}", "ration {}", "up {}")
        for form in forms:
            for word in ("05", "+5", "-0", "00", "5.0", "5a", "five", "-", "", "5_0", "1e3", "9" * 61, "-" + "9" * 61,
                         "9" * 5000, "none"):
                self.refuse_row(form.format(word))

    def test_ever_where_it_may_not_stand(self):
        for row in ("bell a 1 - gone once 5 ever", "bell a 1 - gone each ever 10 3 4",
                    "bell a 1 - gone each 0 10 ever 4", "bell a 1 - gone each 0 10 3 EVER", "go ever",
                    "bell a ever - gone once 5 9"):
            self.refuse_row(row)

    def test_names_that_are_none(self):
        for form in ("bell {} 1 - gone once 5 9", "bell a 1 {} gone once 5 9", "move {} 30 40", "off {} 5", "take {}",
                     "let {}", "group {} -", "group h {}", "sleep {}", "wake {}", "end {}", "about {}"):
            for word in ("A", "Tea", "tea1", "abcdefghi", "1", "te-a", "--", "", "tea\n"):
                self.refuse_row(form.format(word))
        for row in ("bell - 1 - gone once 5 9", "move - 30 40", "take -", "group - -", "group - g", "sleep -",
                    "about -"):
            self.refuse_row(row)

    def test_the_clock(self):
        for word in ("Gone", "DAY", "night", "-", "", "0", "awake"):
            self.refuse_row(f"bell a 1 - {word} once 5 9")

    def test_kinds_of_rules_that_are_none(self):
        for rule in ("never 5 9", "Once 5 9", "once", "each 0 10 3", "each 0 10 3 ever ever", "slowing 0 2 10 1",
                     "behind 0 7 2", "0 10 3 ever", "once  5 9", "once 5 9 "):
            self.refuse_row(f"bell a 1 - gone {rule}")


class Refusals(Case):
    def test_a_rule_that_is_refused(self):
        desk = small()
        held = desk.say("keep")
        for rule in ("once 9 5", "each 0 0 0 ever", "each 0 10 10 ever", "each 0 10 3 0", "behind 0 0 2 ever",
                     "behind 0 7 2 0", "slowing 0 2 1 1 ever", "slowing 0 0 0 1 ever"):
            self.refuse(NoRule, lambda: desk.say(f"bell a 1 - gone {rule}"))
        self.assertEqual(desk.say("keep"), held)

    def test_no_row_ahead_of_no_rule_ahead_of_the_keepers_own(self):
        desk = small()
        self.refuse(NoRow, lambda: desk.say("bell tea 1 - noon once 9 5"))
        self.refuse(NoRow, lambda: desk.say("bell tea 0 none gone once 9 -5"))
        self.refuse(NoRule, lambda: desk.say("bell tea 0 none gone once 9 5"))
        self.refuse(Twice, lambda: desk.say("bell tea 0 none gone once 5 9"), "tea")
        self.refuse(NoGroup, lambda: desk.say("bell new 0 none gone once 5 9"), "none")
        self.refuse(NoWeight, lambda: desk.say("bell new 0 g gone once 5 9"))

    def test_the_keepers_own(self):
        desk = small()
        told(desk, "go 4", "group aa -")
        told(desk, *[f"group {name * 2} {above * 2}" for above, name in zip("abcdefg", "bcdefgh")])
        held = desk.say("keep")
        for kind, name, row in (
            (NoBell, "x", "move x 9 5"), (NoStretch, None, "move tea 9 5"), (NoBell, "x", "off x 5"),
            (NoStretch, None, "off tea -4"), (NoBell, "x", "take x"), (NoBell, "x", "let x"), (NoBell, "g", "about g"),
            (Twice, "g", "group g x"), (NoGroup, "x", "group new x"), (TooDeep, "new", "group new hh"),
            (NoGroup, "x", "sleep x"), (NoGroup, "tea", "wake tea"), (NoGroup, "x", "end x"), (NoTime, None, "turn -5"),
            (Past, None, "go 3"), (Past, None, "go 3 5"),
        ):
            with self.subTest(row):
                self.refuse(kind, lambda: desk.say(row), name)
        self.assertEqual(desk.say("keep"), held)


def row_of(deed):
    kind, things = deed
    if kind == "add":
        name, rule, weight, home, by_day = things
        return f"bell {name} {weight} {home or '-'} {'day' if by_day else 'gone'} {rule.words()}"
    if kind == "group":
        return f"group {things[0]} {things[1] or '-'}"
    word = {"put_off": "off", "let_by": "let", "idle": "up"}.get(kind, kind)
    return " ".join([word] + [str(thing) for thing in things])


def said(desk, row):
    try:
        return desk.say(row)
    except WakeError as refusal:
        return type(refusal).__name__, getattr(refusal, "name", None)


def answers(desk):
    rows = ["ahead", "known", "bells", "clock", "keep"] + [f"about {name}" for name in desk.say("bells")]
    return [desk.say(row) for row in rows]


def wanted_answers(keeper):
    rows = [[f"wake {time} {name}" for time, name in zip(*keeper.ahead())],
            [f"{name} {since} {due} {weight}" for name, since, due, weight in keeper.known()], keeper.bells(),
            [f"{keeper.now} {keeper.now + keeper.shift}"], kept(keeper).split("\n")]
    return rows + [["{} {} {}".format(*keeper.about(name))] for name in keeper.bells()]


class ThePromise(Case):
    def test_a_desk_and_a_keeper_told_the_same_deeds(self):
        for seed in range(60):
            chance = random.Random(seed)
            rounds = chance.choice([None, [4, 3], [10, 6]])
            desk, ups, keeper = Desk(rounds), Desk(rounds), Keeper(rounds)
            for turn in range(100):
                deed = some_deed(chance, keeper)
                row = row_of(deed)
                wanted = done(keeper, deed)
                if isinstance(wanted, list):
                    wanted = [" ".join(str(thing) for thing in entry) for entry in wanted]
                elif deed[0] == "go" and deed[1][0] < 0:
                    wanted = "NoRow", None
                self.assertEqual(said(desk, row), wanted, row)
                self.assertEqual(said(ups, row), wanted, row)
                self.assertEqual(answers(desk), wanted_answers(keeper))
                self.assertEqual(answers(ups), answers(desk))
                self.assertEqual(ups.say("up 0"), [])

    def test_wheels_and_a_plain_row_say_the_same_but_for_the_rounds(self):
        for seed in range(12):
            chance = random.Random(seed)
            keeper = Keeper()
            desks = [Desk()] + [Desk(list(rounds)) for rounds in ROUNDS]
            for turn in range(80):
                deed = some_deed(chance, keeper)
                done(keeper, deed)
                row = row_of(deed)
                told_by_each = [said(desk, row) for desk in desks]
                self.assertEqual(told_by_each, [told_by_each[0]] * len(desks))
                all_answers = [answers(desk) for desk in desks]
                for rounds, told_by_one in zip((None,) + ROUNDS, all_answers):
                    head = told_by_one[4].pop(0)
                    words = "none" if rounds is None else " ".join(str(slots) for slots in rounds)
                    self.assertEqual(head, f"now {keeper.now} shift {keeper.shift} rounds {words}")
                self.assertEqual(all_answers, [all_answers[0]] * len(desks))


if __name__ == "__main__":
    unittest.main()

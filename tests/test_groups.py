"""Points 3 and 19 to 24: groups within groups."""

import random
import unittest

from helper import Case
from wakefew.errors import NoGroup, TooDeep, Twice
from wakefew.groups import Groups

CHAIN = "abcdefgh"


def deep():
    groups = Groups()
    above = None
    for name in CHAIN:
        groups.add(name, above)
        above = name
    return groups


def tree():
    """top holds left and right, left holds leaf and moss; other lies in none."""
    groups = Groups()
    for name, above in (("top", None), ("right", "top"), ("left", "top"), ("moss", "left"), ("leaf", "left"),
                        ("other", None)):
        groups.add(name, above)
    return groups


def state(groups):
    return [(name, groups.chain(name), groups.awake(name), groups.marked(name)) for name in groups.all_of()]


class Adding(Case):
    def test_it_stands_unmarked(self):
        groups = Groups()
        self.assertIs(groups.has("a"), False)
        self.assertIsNone(groups.add("a"))
        self.assertIsNone(groups.add(name="b", above="a"))
        self.assertIsNone(groups.add("c", None))
        for name in "abc":
            self.assertIs(groups.has(name), True)
            self.assertIs(groups.awake(name), True)
            self.assertIs(groups.marked(name), False)
        self.assertIs(groups.has(name="d"), False)

    def test_eight_deep_and_one_more(self):
        groups = deep()
        self.assertEqual(groups.chain("h"), list("hgfedcba"))
        self.refuse(TooDeep, lambda: groups.add("i", "h"), "i")
        self.assertEqual((groups.has("i"), groups.within("a")), (False, list(CHAIN)))
        groups.add("i", "g")
        self.assertEqual(groups.chain("i"), list("igfedcba"))

    def test_the_order_of_refusals(self):
        groups = deep()
        held = state(groups)
        self.refuse(Twice, lambda: groups.add("a", "none"), "a")
        self.refuse(Twice, lambda: groups.add("h", "h"), "h")
        self.refuse(Twice, lambda: groups.add("a"), "a")
        self.refuse(NoGroup, lambda: groups.add("i", "none"), "none")
        self.refuse(NoGroup, lambda: groups.add("i", "i"), "i")
        self.refuse(TooDeep, lambda: groups.add("i", "h"), "i")
        self.assertEqual(state(groups), held)

    def test_above_a_group_that_is_gone(self):
        groups = tree()
        groups.end("left")
        self.refuse(NoGroup, lambda: groups.add("new", "left"), "left")
        self.refuse(NoGroup, lambda: groups.add("new", "leaf"), "leaf")

    def test_in_one_that_sleeps(self):
        groups = tree()
        groups.sleep("left")
        groups.add("new", "leaf")
        self.assertEqual((groups.awake("new"), groups.marked("new")), (False, False))
        self.assertEqual(groups.wake("left"), ["leaf", "left", "moss", "new"])


class Marks(Case):
    def test_above_beneath_and_at_the_group(self):
        for marked in ("top", "left", "leaf"):
            groups = tree()
            groups.sleep(marked)
            for name in groups.all_of():
                self.assertIs(groups.awake(name), marked not in groups.chain(name))
                self.assertIs(groups.marked(name), name == marked)

    def test_one_marked_itself_stays_asleep(self):
        groups = tree()
        groups.sleep("left")
        self.assertEqual(groups.sleep("top"), ["right", "top"])
        self.assertEqual(groups.wake("top"), ["right", "top"])
        self.assertEqual((groups.awake("left"), groups.awake("leaf"), groups.awake("right")), (False, False, True))
        self.assertEqual(groups.wake("left"), ["leaf", "left", "moss"])

    def test_the_mark_beneath_a_mark(self):
        groups = tree()
        self.assertEqual(groups.sleep("top"), ["leaf", "left", "moss", "right", "top"])
        self.assertEqual(groups.sleep("left"), [])
        self.assertIs(groups.marked("left"), True)
        self.assertEqual(groups.wake("left"), [])
        self.assertEqual((groups.marked("left"), groups.awake("left")), (False, False))
        self.assertEqual(groups.wake("top"), ["leaf", "left", "moss", "right", "top"])

    def test_where_it_is_so_already(self):
        groups = tree()
        self.assertEqual(groups.wake("left"), [])
        self.assertEqual(groups.sleep(name="left"), ["leaf", "left", "moss"])
        self.assertEqual(groups.sleep("left"), [])
        self.assertEqual(groups.wake(name="left"), ["leaf", "left", "moss"])
        self.assertEqual(groups.wake("left"), [])
        self.assertEqual((groups.awake("left"), groups.marked("left")), (True, False))

    def test_down_eight_groups(self):
        groups = deep()
        self.assertEqual(groups.sleep("a"), list(CHAIN))
        self.assertIs(groups.awake("h"), False)
        self.assertEqual(groups.wake("a"), list(CHAIN))
        self.assertEqual(groups.sleep("h"), ["h"])
        self.assertIs(groups.awake("g"), True)


class Ending(Case):
    def test_with_others_beneath_it(self):
        groups = tree()
        self.assertEqual(groups.end("left"), ["leaf", "left", "moss"])
        self.assertEqual(groups.all_of(), ["other", "top", "right"])
        self.assertEqual([groups.has(name) for name in ("left", "leaf", "moss", "top")], [False, False, False, True])
        self.assertEqual(groups.end(name="right"), ["right"])
        self.assertEqual(groups.end("top"), ["top"])
        self.assertEqual(groups.all_of(), ["other"])

    def test_the_names_are_added_again_unmarked(self):
        groups = tree()
        groups.sleep("left")
        groups.sleep("leaf")
        groups.sleep("top")
        groups.end("top")
        for name in ("leaf", "left", "top"):
            groups.add(name)
            self.assertEqual((groups.marked(name), groups.awake(name), groups.chain(name)), (False, True, [name]))


class Questions(Case):
    def test_chain_and_within(self):
        groups = tree()
        self.assertEqual(groups.chain("leaf"), ["leaf", "left", "top"])
        self.assertEqual(groups.chain(name="other"), ["other"])
        self.assertEqual(groups.within("top"), ["leaf", "left", "moss", "right", "top"])
        self.assertEqual(groups.within("left"), ["leaf", "left", "moss"])
        self.assertEqual(groups.within(name="moss"), ["moss"])

    def test_all_of(self):
        self.assertEqual(Groups().all_of(), [])
        self.assertEqual(tree().all_of(), ["other", "top", "left", "right", "leaf", "moss"])
        groups = Groups()
        for name, above in (("z", None), ("a", "z"), ("y", None), ("b", "y"), ("aa", "z"), ("c", "a")):
            groups.add(name, above)
        self.assertEqual(groups.all_of(), ["y", "z", "a", "aa", "b", "c"])

    def test_no_group(self):
        groups = tree()
        groups.end("right")
        held = state(groups)
        for name in ("none", "right"):
            for ask in ("sleep", "wake", "end", "awake", "marked", "chain", "within"):
                self.refuse(NoGroup, lambda: getattr(groups, ask)(name), name)
        self.assertEqual(state(groups), held)

    def test_what_was_told_is_the_askers_own(self):
        groups = tree()
        held = state(groups)
        for told in (groups.chain("leaf"), groups.within("top"), groups.all_of()):
            told.reverse()
            told.append("x")
        fell = groups.sleep("left")
        fell.clear()
        woke = groups.wake("left")
        self.assertEqual(woke, ["leaf", "left", "moss"])
        woke.clear()
        self.assertEqual(state(groups), held)
        before = groups.all_of()
        groups.end("top").clear()
        self.assertEqual(before, ["other", "top", "left", "right", "leaf", "moss"])
        self.assertEqual(groups.all_of(), ["other"])

    def test_asked_again(self):
        groups = tree()
        groups.sleep("left")
        self.assertEqual(state(groups), state(groups))
        self.assertEqual([groups.within("top") for turn in range(3)], [groups.within("top")] * 3)


class ManyDeeds(Case):
    def test_against_a_plain_dict(self):
        for seed in range(30):
            chance = random.Random(seed)
            groups, above, marks = Groups(), {}, set()

            def chain(name):
                return [] if name is None else [name] + chain(above[name])

            def awake(name):
                return not marks & set(chain(name))

            for turn in range(120):
                name, other = chance.choice("abcdefghijkl"), chance.choice("abcdefghijkl")
                deed = chance.choice(["add", "add", "add", "sleep", "wake", "end"])
                if deed == "end" and chance.random() < 0.6:
                    continue
                ahead = {one for one in above if awake(one)}
                if deed == "add":
                    if name in above or other not in above or len(chain(other)) == 8:
                        other = None
                    if name in above:
                        self.refuse(Twice, lambda: groups.add(name, other), name)
                    else:
                        groups.add(name, other)
                        above[name] = other
                elif name not in above:
                    self.refuse(NoGroup, lambda: getattr(groups, deed)(name), name)
                elif deed == "end":
                    gone = sorted(one for one in above if name in chain(one))
                    self.assertEqual(groups.end(name), gone)
                    for one in gone:
                        marks.discard(one)
                        above.pop(one)
                else:
                    (marks.add if deed == "sleep" else marks.discard)(name)
                    behind = {one for one in above if awake(one)}
                    self.assertEqual(getattr(groups, deed)(name), sorted(ahead ^ behind))
                names = sorted(above, key=lambda one: (len(chain(one)), one))
                self.assertEqual(state(groups), [(one, chain(one), awake(one), one in marks) for one in names])


if __name__ == "__main__":
    unittest.main()

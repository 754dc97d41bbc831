"""Names, numbers and rules, read from texts."""

from wakefew.errors import NoRule, NoText
from wakefew.rules import Behind, Each, Once, Slowing

MOST_SIGNS = 8
MOST_FIGURES = 60
FIGURES = "0123456789"
# How many numbers stand behind the kind of a rule.
LENGTHS = {"once": 2, "each": 4, "behind": 4, "slowing": 5}


def demand(good):
    if not good:
        raise NoText("the text is none of those that may stand here")


def is_name(thing):
    if not isinstance(thing, str) or not 1 <= len(thing) <= MOST_SIGNS:
        return False
    return all(["a" <= sign <= "z" for sign in thing])


def is_number(text):
    row = text[1:] if text.startswith("-") else text
    if not 1 <= len(row) <= MOST_FIGURES or not all([sign in FIGURES for sign in row]):
        return False
    return text == "0" or row[0] != "0"


def read_whole(text):
    # Looked at sign by sign ahead of int, which takes blanks, a +, and noughts ahead.
    demand(isinstance(text, str) and is_number(text))
    return int(text)


def read_many(word):
    return None if word == "ever" else read_whole(word)


def split_rule(words):
    # The kind and the numbers, be the rule refused or not.
    kind = words[0] if words else ""
    demand(kind in LENGTHS and len(words) == LENGTHS[kind] + 1)
    if kind == "once":
        return (kind, [read_whole(word) for word in words[1:]])
    return (kind, [read_whole(word) for word in words[1:-1]] + [read_many(words[-1])])


def make_rule(kind, numbers):
    if kind == "once":
        return Once(numbers[0], numbers[1])
    if kind == "each":
        return Each(numbers[0], numbers[1], numbers[2], numbers[3])
    if kind == "behind":
        return Behind(numbers[0], numbers[1], numbers[2], numbers[3])
    return Slowing(numbers[0], numbers[1], numbers[2], numbers[3], numbers[4])


def read_rule(text):
    demand(isinstance(text, str))
    kind, numbers = split_rule(text.split(" "))
    try:
        return make_rule(kind, numbers)
    except NoRule:
        raise NoText("the rule is refused") from None

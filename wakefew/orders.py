"""How the desk's rows are read: which words stand in which place."""

from wakefew.errors import NoRow, NoText
from wakefew.words import demand, is_name, read_whole, split_rule

MOST_WAKINGS = 60
# What stands behind the first word of each row.
FORMS = {
    "bell": ("name", "count", "group", "clock", "rule"),
    "move": ("name", "count", "count"),
    "off": ("name", "whole"),
    "take": ("name",),
    "let": ("name",),
    "group": ("name", "group"),
    "sleep": ("name",),
    "wake": ("name",),
    "end": ("name",),
    "turn": ("whole",),
    "go": ("count",),
    "ration": ("count",),
    "up": ("count",),
    "ahead": (),
    "known": (),
    "bells": (),
    "about": ("name",),
    "clock": (),
    "keep": (),
}


def read_order(row):
    # A list of the row's first word and what the others tell; a rule is told as its kind and its numbers.
    if not isinstance(row, str):
        raise NoRow("no text")
    words = row.split(" ")
    parts = parts_of(words)
    form = form_of(words)
    if form is None or len(form) != len(parts):
        raise NoRow("no row has these words")
    try:
        return [words[0]] + [read_part(kind, part) for kind, part in zip(form, parts)]
    except NoText:
        raise NoRow("a word does not stand where it may") from None


def parts_of(words):
    if words[0] == "bell":
        return words[1:5] + [words[5:]]
    return words[1:]


def form_of(words):
    if words[0] == "go" and len(words) == 3:
        return ("count", "most")
    return FORMS.get(words[0])


def read_part(kind, part):
    if kind == "name":
        return read_name(part)
    if kind == "group":
        return None if part == "-" else read_name(part)
    if kind == "clock":
        return read_clock(part)
    if kind == "rule":
        return read_rule_part(part)
    if kind == "whole":
        return read_whole(part)
    return read_count(part, kind == "most")


def read_name(word):
    demand(is_name(word))
    return word


def read_clock(word):
    demand(word in ("gone", "day"))
    return word == "day"


def read_count(word, is_most):
    number = read_whole(word)
    demand(1 <= number <= MOST_WAKINGS if is_most else number >= 0)
    return number


def read_rule_part(words):
    kind, numbers = split_rule(words)
    demand(all([number is None or number >= 0 for number in numbers]))
    return (kind, numbers)

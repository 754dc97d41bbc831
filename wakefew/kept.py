"""A keeper kept as a text, and one that comes up from it."""

from wakefew.bells import Bell
from wakefew.errors import NoText, WakeError
from wakefew.keeper import Keeper
from wakefew.wholes import figures
from wakefew.words import demand, is_name, read_rule, read_whole


def kept(keeper):
    rows = [head_row(keeper)]
    rows.extend([group_row(keeper.groups, name) for name in keeper.groups.all_of()])
    rows.extend([bell_row(bell) for bell in keeper.all_bells()])
    return "\n".join(rows)


def head_row(keeper):
    words = ["now", figures(keeper.now), "shift", figures(keeper.shift), "rounds"]
    if keeper.rounds is None:
        return " ".join(words + ["none"])
    return " ".join(words + [figures(slots) for slots in keeper.rounds])


def group_row(groups, name):
    chain = groups.chain(name)
    above = chain[1] if len(chain) > 1 else "-"
    return " ".join(["group", name, above, "asleep" if groups.marked(name) else "awake"])


def bell_row(bell):
    words = ["bell", bell.name, figures(bell.weight)]
    words.append("-" if bell.home is None else bell.home)
    words.append("day" if bell.by_day else "gone")
    words.extend([figures(number) for number in bell.about()])
    words.append(figures(bell.since) if bell.is_waiting() else "-")
    words.append(bell.rule.words())
    return " ".join(words)


def come_up(text, pause=0):
    keeper = read_keeper(text)
    return (keeper, keeper.idle(pause))


def read_keeper(text):
    demand(isinstance(text, str))
    try:
        return read_rows([row.split(" ") for row in text.split("\n")])
    except WakeError as refusal:
        # Whatever the keeper's parts refuse, no keeper was kept so.
        raise NoText("no text that a keeper is kept as") from refusal


def read_rows(rows):
    keeper = read_head(rows[0])
    place = 1
    while place < len(rows) and rows[place][0] == "group":
        read_group(keeper.groups, rows[place])
        place = place + 1
    for words in rows[place:]:
        read_bell(keeper, words)
    return keeper


def read_head(words):
    demand(len(words) > 5 and [words[0], words[2], words[4]] == ["now", "shift", "rounds"])
    now = read_whole(words[1])
    shift = read_whole(words[3])
    demand(now >= 0 and now + shift >= 0)
    rounds = None if words[5:] == ["none"] else [read_whole(word) for word in words[5:]]
    keeper = Keeper(rounds, now)
    keeper.shift = shift
    return keeper


def read_group(groups, words):
    demand(len(words) == 4 and is_name(words[1]) and words[3] in ("asleep", "awake"))
    groups.add(words[1], read_home(words[2]))
    if words[3] == "asleep":
        groups.sleep(words[1])


def read_home(word):
    # What is no name is refused as a group that no row ahead tells.
    return None if word == "-" else word


def read_bell(keeper, words):
    demand(len(words) > 9 and words[0] == "bell" and is_name(words[1]) and words[4] in ("gone", "day"))
    bell = Bell(words[1], read_rule(" ".join(words[9:])), read_whole(words[2]), read_home(words[3]), words[4] == "day")
    demand(bell.weight >= 1 and bell.name not in keeper.by_name)
    demand(bell.home is None or keeper.groups.has(bell.home))
    read_next_time(bell, words[5:8])
    keeper.hang(bell)
    demand(keeper.is_awake(bell) == (words[8] != "-"))
    if keeper.is_awake(bell):
        # Not laid, as nothing is missed by being kept; and it goes on to wait since it did.
        keeper.let_wait(bell)
        bell.since = read_whole(words[8])


def read_next_time(bell, words):
    number = read_whole(words[0])
    first = read_whole(words[1])
    last = read_whole(words[2])
    demand(number >= 0 and (bell.rule.many is None or number < bell.rule.many))
    demand(0 <= first <= last)
    bell.number = number
    bell.move(first, last)

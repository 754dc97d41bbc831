"""Whole numbers: what is one, and how one is written."""


def is_whole(thing):
    return isinstance(thing, int) and not isinstance(thing, bool)


def figures(number):
    # Python itself refuses to write more than some thousand figures in one go,
    # and a number that is told and handed in again may grow beyond that.
    if number < 0:
        return "-" + figures(-number)
    piece = 10 ** 64
    parts = []
    while number >= piece:
        parts.append(str(number % piece).zfill(64))
        number = number // piece
    parts.append(str(number))
    parts.reverse()
    return "".join(parts)

"""The fewest wakings that ring all claims, each within its stretch."""


def by_last(claim):
    return (claim[2], claim[0])


def fewest(claims):
    wakings = []
    apart = []
    for name, first, last in sorted(claims, key=by_last):
        # No waking so far is later than this last, so where one rings the claim, the newest does.
        if not wakings or wakings[-1] < first:
            wakings.append(last)
            apart.append(name)
    return (wakings, apart)


def first_within(wakings, first, last):
    for waking in wakings:
        if first <= waking <= last:
            return waking
    return None


def rung(wakings, claims):
    told = {}
    for name, first, last in claims:
        told[name] = first_within(wakings, first, last)
    return told

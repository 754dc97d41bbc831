"""What wakings ring, by weight, and the shares that claims get at a price."""

from wakefew.plan import by_last, first_within


def is_rung(wakings, claim):
    return first_within(wakings, claim[1], claim[2]) is not None


def weight_of(wakings, claims):
    return sum([claim[3] for claim in claims if is_rung(wakings, claim)])


def gave_way(wakings, claims):
    return sorted([claim[0] for claim in claims if not is_rung(wakings, claim)])


def shares_at(price, claims):
    # A sum of shares is greatest where a claim begins: between two such times claims only end.
    points = sorted(set([first for name, first, last, weight in claims]))
    loads = [0 for point in points]
    shares = {}
    for name, first, last, weight in claims:
        shares[name] = 0
    for name, first, last, weight in sorted(claims, key=by_last):
        held = [place for place, point in enumerate(points) if first <= point <= last]
        shares[name] = min(weight, price - max([loads[place] for place in held]))
        for place in held:
            loads[place] = loads[place] + shares[name]
    return shares

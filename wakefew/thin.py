"""A few wakings that ring the greatest weight, with a price and shares that show it."""

from wakefew.prices import shares_at


def thin(claims, most):
    price = price_of(claims, most)
    return (best_wakings(claims, most), price, shares_at(price, claims))


def share_sum(claims, price):
    return sum(shares_at(price, claims).values())


def price_of(claims, most):
    # What all shares come to grows ever slower with the price. It pays to go up as long as
    # one more of the price gives more than the one for each waking that it costs.
    low = 0
    high = sum([weight for name, first, last, weight in claims])
    while low < high:
        middle = (low + high) // 2
        if share_sum(claims, middle + 1) - share_sum(claims, middle) <= most:
            high = middle
        else:
            low = middle + 1
    return low


def new_weight(claims, ahead, waking):
    # A claim that this waking and any earlier one ring is rung by the one just ahead, too.
    return sum([
        weight for name, first, last, weight in claims if first <= waking <= last and (ahead is None or ahead < first)
    ])


def gains_of(claims, points):
    gains = []
    for place, waking in enumerate(points):
        gains.append([new_weight(claims, ahead, waking) for ahead in [None] + points[:place]])
    return gains


def best_last(chains, gains, waking):
    # The first chain is the one without a waking; each other one ends at a point ahead of this waking.
    best = None
    for chain, gain in zip(chains, gains):
        if best is None or chain[0] + gain > best[0]:
            best = (chain[0] + gain, chain[1])
    return (best[0], best[1] + [waking])


def best_wakings(claims, most):
    # A waking loses nothing where it waits for the least last of the claims that it rings.
    points = sorted(set([last for name, first, last, weight in claims]))
    gains = gains_of(claims, points)
    best = (0, [])
    chains = [best]
    for turn in range(min(most, len(points))):
        longer = [(0, [])]
        for place, waking in enumerate(points):
            longer.append(best_last(chains[:place + 1], gains[place], waking))
        chains = longer
        for weight, wakings in chains:
            if weight > best[0]:
                best = (weight, wakings)
    return best[1]

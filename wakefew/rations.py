"""A ration: where only few wakings may be, light bells give way."""

from wakefew.prices import gave_way
from wakefew.thin import thin


def ration(keeper, most):
    claims = keeper.known()
    entries = []
    for name in gave_way(thin(claims, most)[0], claims):
        entries.extend(keeper.let_by(name))
    return entries

"""The prices at which no owner gains by changing its own ones, and what profits and buyers make of prices."""

from rivalprices.errors import UnknownName
from rivalprices.market import BASE, COST, OWN, OWNER
from rivalprices.matrix import solve
from rivalprices.ratio import ZERO, add, sign, sub, times

TWO = (2, 1)
HALF = (1, 2)


def _part(market, name, other, group):
    """The part of one price in the equation of a product."""
    if other == name:
        return times(TWO, market.product(name)[OWN])
    fall = sub(ZERO, market.cross(name, other))
    # An owner also counts what a price of its own does to the demands of its other products.
    return times(TWO, fall) if other in group else fall


def row_of(market, name, group):
    """The parts of all prices in the equation of a product whose owner sets the prices of a group."""
    return [_part(market, name, other, group) for other in market.names()]


def right_of(market, name, group):
    """The right side of the equation of a product whose owner sets the prices of a group."""
    told = market.product(name)
    right = add(told[BASE], times(told[OWN], told[COST]))
    for other in group:
        if other != name:
            right = sub(right, times(market.cross(name, other), market.product(other)[COST]))
    return right


def equilibrium(market):
    """The prices at which no owner has more profit by other prices of its own products."""
    rows = []
    right = []
    for name in market.names():
        group = market.owned(market.product(name)[OWNER])
        rows.append(row_of(market, name, group))
        right.append(right_of(market, name, group))
    return solve(rows, right)


def judge(market, prices):
    """Whether a list of ratios is the equilibrium."""
    return prices == equilibrium(market)


def profit(market, owner, prices):
    """The profit of an owner at these prices."""
    group = market.owned(owner)
    if not group:
        raise UnknownName(f"{owner} is no owner")
    total = ZERO
    for name, price, demand in zip(market.names(), prices, market.demands(prices)):
        if name in group:
            margin = sub(price, market.product(name)[COST])
            total = add(total, times(margin, demand))
    return total


def is_lively(market):
    """Whether all demands are above 0 at the equilibrium."""
    return all([sign(demand) > 0 for demand in market.demands(equilibrium(market))])


def buyers_loss(market, prices, others):
    """What the buyers lose when prices become other ones."""
    total = ZERO
    for price, other, demand, rest in zip(prices, others, market.demands(prices), market.demands(others)):
        total = add(total, times(sub(other, price), add(demand, rest)))
    return times(HALF, total)

"""Mergers of owners: what they do to prices, what keeps prices from rising, and how small a market is."""

from itertools import combinations

from rivalprices.errors import InvalidMerger, UnknownName
from rivalprices.market import COST
from rivalprices.matrix import solve
from rivalprices.prices import equilibrium, right_of, row_of
from rivalprices.ratio import ONE, ZERO, add, at_most, less, over, sign, sub, times


def merged(market, owner, other, name):
    """The market in which one owner, called by the name, has the products of two owners."""
    owners = market.owners()
    if owner not in owners or other not in owners:
        raise UnknownName(f"{owner} or {other} is no owner")
    if owner == other:
        raise InvalidMerger(f"{owner} can not merge with itself")
    if name in owners and name not in (owner, other):
        raise InvalidMerger(f"{name} is a third owner")
    return market.with_owners({told: name for told in market.owned(owner) + market.owned(other)})


def _none_above(prices, limits):
    """Whether no price is above its limit."""
    return all([at_most(price, limit) for price, limit in zip(prices, limits)])


def remedy(market, owner, other, name, buyer):
    """The fewest products that a buyer must get so that no price rises by the merger, or None."""
    after = merged(market, owner, other, name)
    if buyer in (owner, other, name):
        raise InvalidMerger(f"{buyer} takes part in the merger")
    limits = equilibrium(market)
    names = after.owned(name)
    for many in range(len(names) + 1):
        for group in combinations(names, many):
            sold = after.with_owners({told: buyer for told in group})
            if _none_above(equilibrium(sold), limits):
                return list(group)
    return None


def saved(market, name, part):
    """The market in which an owner has its costs times (1 less part)."""
    left = sub(ONE, part)
    return market.with_costs({told: times(market.product(told)[COST], left) for told in market.owned(name)})


def _least_part(limits, full, free):
    """The least part of a cut from 0 on that brings down, to its limit, each price that a cut brings down."""
    part = ZERO
    for limit, high, low in zip(limits, full, free):
        fall = sub(high, low)
        if sign(fall) > 0:
            need = over(sub(high, limit), fall)
            part = need if less(part, need) else part
    return part


def cost_cut(market, owner, other, name):
    """The least part of its costs that the merged owner must save so that no price rises, or None."""
    after = merged(market, owner, other, name)
    limits = equilibrium(market)
    # Prices change evenly with the part that is saved, so those at no cut and at a whole one tell all others.
    part = _least_part(limits, equilibrium(after), equilibrium(saved(after, name, ONE)))
    if less(ONE, part):
        return None
    # What is above its limit even so is a price that no cut brings down.
    if not _none_above(equilibrium(saved(after, name, part)), limits):
        return None
    return part


def _check_product(market, name):
    if name not in market.names():
        raise UnknownName(f"{name} is no product")


def _prices_by(market, group, prices):
    """All prices if one owner sets those of a group, and all others stay as they are told."""
    rows = []
    right = []
    for name, price in zip(market.names(), prices):
        if name in group:
            rows.append(row_of(market, name, group))
            right.append(right_of(market, name, group))
        else:
            rows.append([ONE if other == name else ZERO for other in market.names()])
            right.append(price)
    return solve(rows, right)


def alone(market, names):
    """The prices that one owner of these products would set for them, all other prices staying."""
    for name in names:
        _check_product(market, name)
    group = [name for name in market.names() if name in names]
    prices = dict(zip(market.names(), _prices_by(market, group, equilibrium(market))))
    return [prices[name] for name in names]


def _is_raised(market, group, prices, growth):
    """Whether one owner of a group would set, for one of them at least, its price times the growth or more."""
    found = _prices_by(market, group, prices)
    return any([
        name in group and at_most(times(growth, price), other)
        for name, price, other in zip(market.names(), prices, found)
    ])


def smallest_market(market, name, rise):
    """The fewest products, this one among them, whose owner alone would set a price that rises so much, or None."""
    _check_product(market, name)
    prices = equilibrium(market)
    growth = add(ONE, rise)
    names = market.names()
    for many in range(1, len(names) + 1):
        for group in combinations(names, many):
            if name in group and _is_raised(market, group, prices, growth):
                return list(group)
    return None

"""What several tests use: markets of many kinds, figures as fractions, and errors of just one class."""

import itertools
from fractions import Fraction

from rivalprices import errors
from rivalprices.market import Market

CLASSES = [
    getattr(errors, name) for name in (
        "InvalidRatio", "Singular", "InvalidMarket", "UnknownName", "DuplicateName", "InvalidMerger",
        "InvalidCommand", "InvalidLine",
    )
]


def told(value):
    """A number as a ratio."""
    value = Fraction(value)
    return (value.numerator, value.denominator)


def number(ratio):
    return Fraction(*ratio)


def numbers(ratios):
    return [Fraction(*ratio) for ratio in ratios]


def ratios(values):
    return [told(value) for value in values]


def raises(case, error, call, *arguments):
    """Checks that a call raises an error of just this class; returns the error."""
    with case.assertRaises(errors.PriceError) as caught:
        call(*arguments)
    found = caught.exception
    case.assertIs(type(found), error)
    case.assertIsInstance(found, ValueError)
    case.assertEqual([other for other in CLASSES if isinstance(found, other)], [error])
    return found


def check_ratios(case, values):
    """Checks that a list holds ratios, each in its one form."""
    case.assertIs(type(values), list)
    for value in values:
        check_ratio(case, value)


def check_ratio(case, value):
    case.assertIs(type(value), tuple)
    case.assertEqual([type(part) for part in value], [int, int])
    case.assertEqual(value, told(Fraction(*value)))
    case.assertGreaterEqual(value[1], 1)


def item(name, owner, base=10, own=5, cost=1):
    return (name, owner, told(base), told(own), told(cost))


def steps(seed):
    """Numbers that look like chosen ones, the same in each run."""
    while True:
        seed = (seed * 1103515245 + 12345) % 2 ** 31
        yield seed // 2 ** 16


def some_market(count, owners, seed):
    """A market of this many products, with at most so many owners."""
    chosen = steps(seed)
    names = ["ash", "bay", "cod", "dill", "elm", "fig"][:count]
    crosses = {}
    for pair in itertools.combinations(names, 2):
        if next(chosen) % 4:
            crosses[pair] = Fraction(1 + next(chosen) % 9, 1 + next(chosen) % 4)
    products = []
    for name in names:
        least = sum(cross for pair, cross in crosses.items() if name in pair)
        own = least + Fraction(1 + next(chosen) % 8, 1 + next(chosen) % 5)
        base = Fraction(20 + next(chosen) % 60, 1 + next(chosen) % 2)
        owner = "uvwxyz"[next(chosen) % owners] * 2
        products.append(item(name, owner, base, own, Fraction(next(chosen) % 9, 1 + next(chosen) % 3)))
    rivalries = [(one, other, told(cross)) for (one, other), cross in crosses.items()]
    return Market(products[::-1], rivalries[::-1])


def some_markets():
    """Markets of one to six products, of one to six owners."""
    return [
        some_market(count, owners, 100 * count + 10 * owners + turn)
        for count in range(1, 7) for owners in range(1, count + 1) for turn in range(2)
    ]


def looks(market):
    """All that a market shows, but for its field."""
    names = market.names()
    return (
        names, market.owners(), [market.product(name) for name in names], market.rivalries(),
        [market.owned(owner) for owner in market.owners()],
    )


def demands(market, prices):
    """The demands at prices that are fractions, by point 3.3."""
    names = market.names()
    at = dict(zip(names, prices))
    return [
        number(market.product(name)[2]) - number(market.product(name)[3]) * at[name]
        + sum(number(market.cross(name, other)) * at[other] for other in names if other != name)
        for name in names
    ]


def group_profit(market, group, prices):
    """The sum over a group of products of price less cost times demand, by point 4.1."""
    return sum(
        (price - number(market.product(name)[4])) * demand
        for name, price, demand in zip(market.names(), prices, demands(market, prices)) if name in group
    )


def changed(prices, at, step):
    return [price + step if place == at else price for place, price in enumerate(prices)]


def is_best(market, group, prices):
    """Whether the profit of a group is at its greatest, as far as the prices of the group go.

    Along each price the profit is a parabola, so a step up and a step down give the same exactly at its top.
    """
    return all(
        group_profit(market, group, changed(prices, at, 1)) == group_profit(market, group, changed(prices, at, -1))
        for at, name in enumerate(market.names()) if name in group
    )

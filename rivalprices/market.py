"""A market: products, their owners, and how the products rival one another."""

from rivalprices.errors import DuplicateName, InvalidMarket, UnknownName
from rivalprices.matrix import along, is_dominant
from rivalprices.ratio import ZERO, add, sign, sub

MOST_PRODUCTS = 6
LONGEST_NAME = 12
LETTERS = "abcdefghijklmnopqrstuvwxyz"

# The places in a product.
OWNER = 1
BASE = 2
OWN = 3
COST = 4


def is_name(text):
    """Whether a text can be the name of a product or an owner."""
    if not isinstance(text, str) or not 1 <= len(text) <= LONGEST_NAME:
        return False
    return all([letter in LETTERS for letter in text])


def _pair(one, other):
    """The two names with the lesser one first, as a cross holds both ways."""
    if one < other:
        return (one, other)
    return (other, one)


def _products_by_name(products):
    """The products as they are told, each under its name."""
    if not 1 <= len(products) <= MOST_PRODUCTS:
        raise InvalidMarket("a market has 1 to 6 products")
    table = {}
    for name, owner, base, own, cost in products:
        if not is_name(name) or not is_name(owner):
            raise InvalidMarket("a name has 1 to 12 small letters")
        if name in table:
            raise DuplicateName(f"{name} is there already")
        if sign(base) < 1 or sign(own) < 1 or sign(cost) < 0:
            raise InvalidMarket(f"a ratio of {name} is out of range")
        table[name] = (name, owner, base, own, cost)
    return table


def _crosses_by_pair(rivalries, table):
    """The crosses as they are told, each under the pair of its names."""
    crosses = {}
    for one, other, cross in rivalries:
        if one not in table or other not in table:
            raise UnknownName(f"{one} or {other} is no product")
        if one == other:
            raise InvalidMarket(f"{one} is no rival of its own")
        if sign(cross) < 1:
            raise InvalidMarket(f"the cross of {one} and {other} is not above 0")
        pair = _pair(one, other)
        if pair in crosses:
            raise DuplicateName(f"{one} and {other} are rivals already")
        crosses[pair] = cross
    return crosses


class Market:
    """Products in ascending order of their names, with their rivalries."""

    def __init__(self, products, rivalries):
        table = _products_by_name(products)
        self._crosses = _crosses_by_pair(rivalries, table)
        self._table = {name: table[name] for name in sorted(table)}
        # The methods read the table, so that a change of this list changes nothing else.
        self.products = list(self._table.values())
        # As own and crosses are above 0, dominant slopes are just those whose own is great enough.
        if not is_dominant([self._slopes(name) for name in self._table]):
            raise InvalidMarket("an own is not greater than the sum of its crosses")

    def _slopes(self, name):
        """By how much the demand of a product grows if a price grows by 1, for each price."""
        fall = sub(ZERO, self._table[name][OWN])
        return [fall if other == name else self.cross(name, other) for other in self._table]

    def names(self):
        """The names of the products in ascending order."""
        return list(self._table)

    def owners(self):
        """The owners in ascending order, each once."""
        return sorted({row[OWNER] for row in self._table.values()})

    def owned(self, owner):
        """The names of the products of an owner in ascending order."""
        return [name for name, row in self._table.items() if row[OWNER] == owner]

    def product(self, name):
        """The product with this name."""
        self._check_names([name])
        return self._table[name]

    def cross(self, one, other):
        """The cross of two products, 0 if they are no rivals."""
        return self._crosses.get(_pair(one, other), ZERO)

    def rivalries(self):
        """The rivalries in ascending order, the lesser name first in each."""
        return [(one, other, self._crosses[(one, other)]) for one, other in sorted(self._crosses)]

    def demands(self, prices):
        """The demands at these prices, in the order of the names."""
        return [add(row[BASE], along(self._slopes(name), prices)) for name, row in self._table.items()]

    def with_owners(self, owners):
        """The market in which some products have other owners."""
        self._check_names(owners)
        products = [
            (name, owners.get(name, owner), base, own, cost)
            for name, owner, base, own, cost in self._table.values()
        ]
        return Market(products, self.rivalries())

    def with_costs(self, costs):
        """The market in which some products have other costs."""
        self._check_names(costs)
        products = [
            (name, owner, base, own, costs.get(name, cost))
            for name, owner, base, own, cost in self._table.values()
        ]
        return Market(products, self.rivalries())

    def _check_names(self, names):
        for name in names:
            if name not in self._table:
                raise UnknownName(f"{name} is no product")

"""Remedies of mergers, prices of an owner alone, and smallest markets: points 5.2, 5.4 and 5.5."""

import itertools
import unittest
from fractions import Fraction

import helpers
from helpers import item, number, numbers, raises, told
from rivalprices.errors import UnknownName
from rivalprices.market import Market
from rivalprices.mergers import alone, merged, remedy, smallest_market
from rivalprices.prices import equilibrium

ALL = helpers.some_markets()
PAIR = Market([item("oat", "ann", 10, 2, 1), item("rye", "bob", 10, 2, 1)], [("oat", "rye", (1, 1))])
# All products are rivals of one another.
FIVE = Market(
    [item("ale", "ann"), item("bun", "ann"), item("cod", "bob"), item("dip", "bob"), item("egg", "cid")],
    [(one, other, (1, 1)) for one, other in itertools.combinations(["ale", "bun", "cod", "dip", "egg"], 2)],
)


def groups(names):
    """All lists of these names, in ascending order each, the ones with fewer names first."""
    found = [
        [name for at, name in enumerate(names) if mask >> at & 1] for mask in range(2 ** len(names))
    ]
    return sorted(found, key=lambda group: (len(group), group))


def is_any_above(prices, limits):
    return any(number(price) > number(limit) for price, limit in zip(prices, limits))


class Remedies(unittest.TestCase):
    def test_nothing_must_be_sold(self):
        apart = Market([item("oat", "ann"), item("rye", "bob")], [])
        for buyer in ("eve", "cid"):
            self.assertEqual(remedy(apart, "ann", "bob", "ann", buyer), [])

    def test_the_first_of_one_product(self):
        for name in ("ann", "bob", "new"):
            self.assertEqual(remedy(PAIR, "ann", "bob", name, "eve"), ["oat"])
            self.assertEqual(remedy(PAIR, "bob", "ann", name, "eve"), ["oat"])

    def test_a_product_that_is_not_the_first(self):
        # Of the merged owner's products only oat and rye are rivals, and ale is none of theirs.
        market = Market([item("ale", "ann"), item("oat", "ann"), item("rye", "bob")], [("oat", "rye", (1, 1))])
        self.assertEqual(remedy(market, "ann", "bob", "bob", "eve"), ["oat"])
        market = market.with_owners({"ale": "cid"})
        # Now the buyer is one who is there, and has no rival of what it gets.
        self.assertEqual(remedy(market, "ann", "bob", "bob", "cid"), ["oat"])

    def test_two_products(self):
        self.assertEqual(remedy(FIVE, "ann", "bob", "new", "eve"), ["ale", "bun"])
        self.assertEqual(remedy(FIVE.with_owners({"bun": "cid"}), "ann", "bob", "new", "eve"), ["ale"])
        self.assertEqual(remedy(FIVE.with_owners({"dip": "cid"}), "ann", "bob", "new", "eve"), ["cod"])

    def test_none_by_a_buyer_who_has_a_rival(self):
        self.assertIsNone(remedy(FIVE, "ann", "bob", "new", "cid"))
        self.assertIsNone(remedy(FIVE, "ann", "cid", "ann", "bob"))

    def test_all_others(self):
        sizes = set()
        for market in ALL:
            before = helpers.looks(market)
            limits = equilibrium(market)
            for owner, other in itertools.combinations(market.owners(), 2):
                after = merged(market, owner, other, "new")
                third = [told for told in market.owners() if told not in (owner, other)]
                for buyer in ["eve", *third[:2]]:
                    expected = None
                    for group in groups(after.owned("new")):
                        sold = after.with_owners({name: buyer for name in group})
                        if not is_any_above(equilibrium(sold), limits):
                            expected = group
                            break
                    found = remedy(market, owner, other, "new", buyer)
                    self.assertEqual(found, expected)
                    self.assertEqual(remedy(market, other, owner, owner, buyer), expected)
                    sizes.add((buyer == "eve", None if found is None else len(found)))
            self.assertEqual(helpers.looks(market), before)
        self.assertEqual({size for new, size in sizes if new}, {0, 1, 2, 3})
        self.assertLessEqual({None, 0, 1, 2}, {size for new, size in sizes if not new})

    def test_a_new_list_each_time(self):
        found = remedy(FIVE, "ann", "bob", "new", "eve")
        found.clear()
        self.assertEqual(remedy(FIVE, "ann", "bob", "new", "eve"), ["ale", "bun"])
        self.assertIs(type(found), list)


class Alone(unittest.TestCase):
    def test_written_out(self):
        self.assertEqual(alone(PAIR, ["oat"]), [(4, 1)])
        self.assertEqual(alone(PAIR, ["oat", "rye"]), [(11, 2), (11, 2)])
        market = PAIR.with_costs({"oat": (3, 1)}).with_owners({"oat": "bob"})
        # The equilibrium is 13/2 and 11/2; oat alone would be sold at (10 + 6 + 11/2) / 4.
        self.assertEqual(alone(market, ["oat"]), [(43, 8)])
        self.assertEqual(alone(market, ["rye"]), [(37, 8)])
        self.assertEqual(alone(market, ["oat", "rye"]), [(13, 2), (11, 2)])
        self.assertEqual(alone(market, ["rye", "oat"]), [(11, 2), (13, 2)])

    def test_no_products(self):
        self.assertEqual(alone(PAIR, []), [])

    def test_are_best_while_all_others_stay(self):
        for market in ALL:
            before = helpers.looks(market)
            names = market.names()
            prices = dict(zip(names, numbers(equilibrium(market))))
            for group in groups(names)[1:]:
                found = alone(market, group)
                helpers.check_ratios(self, found)
                self.assertEqual(len(found), len(group))
                mixed = {**prices, **dict(zip(group, numbers(found)))}
                self.assertTrue(helpers.is_best(market, group, [mixed[name] for name in names]))
            self.assertEqual(helpers.looks(market), before)

    def test_in_the_order_of_the_names(self):
        for market in ALL[::5]:
            for group in groups(market.names())[1:]:
                table = dict(zip(group, alone(market, group)))
                for names in itertools.islice(itertools.permutations(group), 12):
                    handed = list(names)
                    self.assertEqual(alone(market, handed), [table[name] for name in names])
                    self.assertEqual(handed, list(names))

    def test_of_an_owner_who_is_there_they_are_the_equilibrium(self):
        for market in ALL:
            prices = dict(zip(market.names(), equilibrium(market)))
            for owner in market.owners():
                group = market.owned(owner)
                self.assertEqual(alone(market, group), [prices[name] for name in group])

    def test_unknown_names(self):
        for names in (["ann"], ["oat", "tea"], ["tea", "oat"], [""], ["OAT"], ["oat", "rye", "x"]):
            raises(self, UnknownName, alone, PAIR, names)


class SmallestMarket(unittest.TestCase):
    def test_written_out(self):
        # One owner of both would take 11/2 instead of 4, which is a rise by 3/8.
        self.assertEqual(smallest_market(PAIR, "oat", (0, 1)), ["oat"])
        self.assertEqual(smallest_market(PAIR, "rye", (0, 1)), ["rye"])
        self.assertEqual(smallest_market(PAIR, "rye", (1, 10 ** 30)), ["oat", "rye"])
        self.assertEqual(smallest_market(PAIR, "rye", (1, 20)), ["oat", "rye"])
        self.assertEqual(smallest_market(PAIR, "oat", (3, 8)), ["oat", "rye"])
        self.assertIsNone(smallest_market(PAIR, "oat", (3 * 10 ** 30 + 1, 8 * 10 ** 30)))
        self.assertIsNone(smallest_market(PAIR, "rye", (5, 1)))

    def test_a_rise_of_0_where_one_owner_has_more(self):
        # Alone the products of one owner are sold at less, so it takes all of them.
        both = PAIR.with_owners({"rye": "ann"})
        self.assertEqual(smallest_market(both, "oat", (0, 1)), ["oat", "rye"])
        self.assertIsNone(smallest_market(both, "oat", (1, 10 ** 30)))

    def test_the_price_of_another_product_may_be_the_one_that_rises(self):
        # The price of ale rises by little, and that of bun, which is a small one, by much.
        market = Market(
            [item("ale", "ann", 100, 5, 10), item("bun", "bob", 5, 5, 1)], [("ale", "bun", (1, 1))])
        before = numbers(equilibrium(market))
        rises = [new / old - 1 for new, old in zip(numbers(alone(market, ["ale", "bun"])), before)]
        self.assertGreater(rises[1], rises[0])
        for rise in rises:
            self.assertEqual(smallest_market(market, "ale", told(rise)), ["ale", "bun"])
        self.assertIsNone(smallest_market(market, "ale", told(rises[1] + Fraction(1, 10 ** 9))))

    def test_the_first_of_those_with_as_many(self):
        # All four are alike, so that each pair would take the same prices.
        names = ["ale", "bun", "cod", "dip"]
        alike = Market(
            [item(name, name) for name in names],
            [(one, other, (1, 1)) for one, other in itertools.combinations(names, 2)],
        )
        for name, first in (("ale", ["ale", "bun"]), ("bun", ["ale", "bun"]), ("cod", ["ale", "cod"]),
                            ("dip", ["ale", "dip"])):
            self.assertEqual(smallest_market(alike, name, (1, 100)), first)

    def test_all_others(self):
        sizes = set()
        for market in ALL:
            before = helpers.looks(market)
            names = market.names()
            prices = dict(zip(names, numbers(equilibrium(market))))
            found = {tuple(group): numbers(alone(market, group)) for group in groups(names)[1:]}
            for name in names:
                for rise in (Fraction(0), Fraction(1, 20), Fraction(1, 5), Fraction(3)):
                    expected = None
                    for group in groups(names)[1:]:
                        rises = [new >= (1 + rise) * prices[told] for told, new in zip(group, found[tuple(group)])]
                        if name in group and any(rises):
                            expected = group
                            break
                    self.assertEqual(smallest_market(market, name, told(rise)), expected)
                    sizes.add(None if expected is None else len(expected))
            self.assertEqual(helpers.looks(market), before)
        self.assertEqual(sizes, {None, 1, 2, 3, 4, 5, 6})

    def test_a_new_list_each_time(self):
        found = smallest_market(PAIR, "oat", (1, 20))
        self.assertIs(type(found), list)
        found.clear()
        self.assertEqual(smallest_market(PAIR, "oat", (1, 20)), ["oat", "rye"])

    def test_unknown_names(self):
        for name in ("ann", "tea", "", "OAT"):
            for rise in ((0, 1), (5, 1)):
                raises(self, UnknownName, smallest_market, PAIR, name, rise)


if __name__ == "__main__":
    unittest.main()

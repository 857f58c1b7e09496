"""Mergers, saved costs and cost cuts: points 5.1 and 5.3."""

import itertools
import unittest
from fractions import Fraction

import helpers
from helpers import item, number, numbers, raises, told
from rivalprices.errors import InvalidMarket, InvalidMerger, UnknownName
from rivalprices.market import Market
from rivalprices.mergers import cost_cut, merged, remedy, saved
from rivalprices.prices import buyers_loss, equilibrium

FOUR = Market(
    [item("ale", "ann", cost=2), item("bun", "bob"), item("cod", "ann", cost=Fraction(1, 3)),
     item("dip", "dan", cost=0)],
    [("ale", "bun", (1, 1)), ("bun", "cod", (1, 2)), ("ale", "cod", (1, 1)), ("dip", "ale", (2, 1))],
)
ALL = helpers.some_markets()


def pair(cost, cross=1):
    """Two products of two owners, each with this cost."""
    rivalries = [("oat", "rye", told(cross))] if cross else []
    return Market([item("oat", "ann", 10, 2, cost), item("rye", "bob", 10, 2, cost)], rivalries)


def is_any_above(prices, limits):
    return any(number(price) > number(limit) for price, limit in zip(prices, limits))


def all_pairs():
    for market in ALL:
        for owner, other in itertools.permutations(market.owners(), 2):
            yield market, owner, other


class Merged(unittest.TestCase):
    def test_under_one_of_the_two_names_and_a_new_one(self):
        for name in ("ann", "bob", "new", "abcdefghijkl"):
            for owner, other in (("ann", "bob"), ("bob", "ann")):
                found = merged(FOUR, owner, other, name)
                self.assertIsInstance(found, Market)
                self.assertEqual(found.owners(), sorted([name, "dan"]))
                self.assertEqual(found.owned(name), ["ale", "bun", "cod"])
                self.assertEqual(found.owned("dan"), ["dip"])
                self.assertEqual(found.rivalries(), FOUR.rivalries())
                self.assertEqual(found.product("ale"), ("ale", name, (10, 1), (5, 1), (2, 1)))
                self.assertEqual(found.product("dip"), FOUR.product("dip"))

    def test_a_name_that_an_owner_had_not_or_that_is_a_product(self):
        self.assertEqual(merged(FOUR, "ann", "dan", "ale").owners(), ["ale", "bob"])

    def test_one_owner_of_all(self):
        found = merged(merged(FOUR, "ann", "bob", "bob"), "bob", "dan", "one")
        self.assertEqual(found.owners(), ["one"])
        self.assertEqual(found.owned("one"), FOUR.names())

    def test_all_other_things_stay(self):
        for market, owner, other in all_pairs():
            before = helpers.looks(market)
            for name in (owner, other, "new"):
                found = merged(market, owner, other, name)
                self.assertEqual(found.owned(name), sorted(market.owned(owner) + market.owned(other)))
                third = [told for told in market.owners() if told not in (owner, other)]
                self.assertEqual(found.owners(), sorted([*third, name]))
                for told_owner in third:
                    self.assertEqual(found.owned(told_owner), market.owned(told_owner))
                self.assertEqual([row[2:] for row in found.products], [row[2:] for row in market.products])
                self.assertEqual(found.rivalries(), market.rivalries())
            self.assertEqual(helpers.looks(market), before)

    def test_prices_do_not_hang_on_the_name(self):
        for market, owner, other in all_pairs():
            found = [equilibrium(merged(market, owner, other, name)) for name in (owner, other, "new")]
            self.assertEqual(found[1:], found[:1] * 2)

    def test_what_the_buyers_lose_by_it(self):
        # From 4 and 4 to 11/2 and 11/2: the demands are 6, and then 9/2.
        market = pair(1)
        after = merged(market, "ann", "bob", "new")
        self.assertEqual(equilibrium(after), [(11, 2), (11, 2)])
        self.assertEqual(buyers_loss(market, equilibrium(market), equilibrium(after)), (63, 4))
        self.assertEqual(buyers_loss(after, equilibrium(after), equilibrium(market)), (-63, 4))


class MergerErrors(unittest.TestCase):
    """`merged`, and in the same order `cost_cut` and `remedy`."""

    def refused(self, error, owner, other, name):
        before = helpers.looks(FOUR)
        raises(self, error, merged, FOUR, owner, other, name)
        raises(self, error, cost_cut, FOUR, owner, other, name)
        # What is wrong with the merger is told ahead of what is wrong with the buyer.
        for buyer in ("eve", "dan", owner, other, name):
            raises(self, error, remedy, FOUR, owner, other, name, buyer)
        self.assertEqual(helpers.looks(FOUR), before)

    def test_unknown_owners(self):
        for unknown in ("eve", "ale", "", "ANN", "an"):
            self.refused(UnknownName, unknown, "bob", "new")
            self.refused(UnknownName, "bob", unknown, "new")
            self.refused(UnknownName, unknown, "bob", "bob")

    def test_unknown_owners_ahead_of_all_else(self):
        self.refused(UnknownName, "eve", "eve", "new")
        self.refused(UnknownName, "eve", "eve", "eve")
        self.refused(UnknownName, "eve", "bob", "dan")
        self.refused(UnknownName, "bob", "eve", "dan")
        self.refused(UnknownName, "bob", "eve", "Dan")

    def test_twice_the_same(self):
        for name in ("ann", "bob", "new", "New"):
            self.refused(InvalidMerger, "ann", "ann", name)

    def test_the_name_of_a_third_owner(self):
        self.refused(InvalidMerger, "ann", "bob", "dan")
        self.refused(InvalidMerger, "dan", "bob", "ann")

    def test_a_name_that_is_none(self):
        for name in ("", "New", "abcdefghijklm", "a b"):
            self.refused(InvalidMarket, "ann", "bob", name)

    def test_refused_buyers(self):
        for owner, other, name in (("ann", "bob", "new"), ("bob", "ann", "ann"), ("ann", "bob", "bob")):
            for buyer in ("ann", "bob", name):
                raises(self, InvalidMerger, remedy, FOUR, owner, other, name, buyer)
            for buyer in ("dan", "eve"):
                remedy(FOUR, owner, other, name, buyer)

    def test_a_refused_buyer_also_where_nothing_must_be_sold(self):
        apart = pair(1, 0)
        for buyer in ("ann", "bob", "new"):
            raises(self, InvalidMerger, remedy, apart, "ann", "bob", "new", buyer)
        self.assertEqual(remedy(apart, "ann", "bob", "new", "eve"), [])


class Saved(unittest.TestCase):
    def test_written_out(self):
        found = saved(FOUR, "ann", (1, 4))
        self.assertIsInstance(found, Market)
        self.assertEqual(
            [row[4] for row in found.products], [(3, 2), (1, 1), (1, 4), (0, 1)])
        self.assertEqual(found.rivalries(), FOUR.rivalries())
        self.assertEqual([row[:4] for row in found.products], [row[:4] for row in FOUR.products])

    def test_nothing_and_all(self):
        self.assertEqual(helpers.looks(saved(FOUR, "ann", (0, 1))), helpers.looks(FOUR))
        self.assertEqual(
            [row[4] for row in saved(FOUR, "ann", (1, 1)).products], [(0, 1), (1, 1), (0, 1), (0, 1)])

    def test_only_the_costs_of_the_owner(self):
        for market in ALL:
            before = helpers.looks(market)
            for owner in market.owners():
                for part in (Fraction(0), Fraction(1, 3), Fraction(9, 10), Fraction(1)):
                    found = saved(market, owner, told(part))
                    self.assertIsNot(found, market)
                    for name in market.names():
                        row = market.product(name)
                        cost = number(row[4]) * (1 - part if row[1] == owner else 1)
                        self.assertEqual(found.product(name), (*row[:4], told(cost)))
            self.assertEqual(helpers.looks(market), before)

    def test_of_nobody(self):
        self.assertEqual(helpers.looks(saved(FOUR, "eve", (1, 2))), helpers.looks(FOUR))


class CostCut(unittest.TestCase):
    def test_written_out(self):
        # Ahead of the merger the prices are (10 + 2c) / 3, behind it (10 + c(1 - t)) / 2.
        for cost, part in ((5, Fraction(1, 3)), (4, Fraction(1, 2)), (Fraction(5, 2), 1), (3, Fraction(7, 9)),
                           (10, 0), (11, 0), (Fraction(99, 10), Fraction(1, 297))):
            for name in ("ann", "bob", "new"):
                self.assertEqual(cost_cut(pair(cost), "ann", "bob", name), told(part))

    def test_none(self):
        for cost in (0, 1, 2, Fraction(5 * 10 ** 30 - 1, 2 * 10 ** 30)):
            self.assertIsNone(cost_cut(pair(cost), "ann", "bob", "new"))

    def test_just_one_and_just_above(self):
        near = Fraction(5 * 10 ** 30 + 1, 2 * 10 ** 30)
        found = number(cost_cut(pair(near), "ann", "bob", "new"))
        self.assertLess(found, 1)
        self.assertGreater(found, 1 - Fraction(1, 10 ** 29))

    def test_nothing_where_no_price_rises(self):
        for cost in (0, 1, 5):
            self.assertEqual(cost_cut(pair(cost, 0), "ann", "bob", "new"), (0, 1))

    def test_where_one_product_has_no_cost(self):
        # What is saved with the one does not bring down the price of the other.
        market = pair(5).with_costs({"rye": (0, 1)})
        self.assertIsNone(cost_cut(market, "ann", "bob", "ann"))

    def test_is_the_least_one(self):
        kinds = set()
        for market, owner, other in all_pairs():
            before = helpers.looks(market)
            limits = equilibrium(market)
            after = merged(market, owner, other, "new")
            part = cost_cut(market, owner, other, "new")
            if part is None:
                kinds.add("none")
                tried = [Fraction(at, 16) for at in range(17)]
            else:
                helpers.check_ratio(self, part)
                self.assertFalse(is_any_above(equilibrium(saved(after, "new", part)), limits))
                least = number(part)
                self.assertTrue(0 <= least <= 1)
                kinds.add("nothing" if least == 0 else "part")
                tried = [least * (1 - Fraction(1, 10 ** 12)), least / 2, Fraction(0)] if least else []
            for less in tried:
                self.assertTrue(is_any_above(equilibrium(saved(after, "new", told(less))), limits))
            self.assertEqual(helpers.looks(market), before)
        self.assertEqual(kinds, {"none", "nothing", "part"})

    def test_the_price_of_a_third_owner_counts(self):
        # By the cut the prices of the two are as ahead of the merger, and so is that of the third.
        market = Market(
            [item("oat", "ann", 10, 4, 4), item("rye", "bob", 10, 4, 4), item("nut", "cid", 10, 4, 1)],
            [("oat", "rye", (1, 1)), ("oat", "nut", (1, 1)), ("rye", "nut", (1, 1))],
        )
        part = cost_cut(market, "ann", "bob", "new")
        after = saved(merged(market, "ann", "bob", "new"), "new", part)
        self.assertEqual(numbers(equilibrium(after))[0], numbers(equilibrium(market))[0])
        self.assertEqual(equilibrium(after), equilibrium(market))


if __name__ == "__main__":
    unittest.main()

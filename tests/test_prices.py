"""Profits, equilibria, lively markets, and what the buyers lose: points 4.1 to 4.4."""

import itertools
import unittest
from fractions import Fraction

import helpers
from helpers import item, numbers, raises, ratios, told
from rivalprices.errors import UnknownName
from rivalprices.market import Market
from rivalprices.prices import buyers_loss, equilibrium, is_lively, judge, profit

RYE = ("rye", "ann", (10, 1), (2, 1), (1, 1))
OAT = ("oat", "bob", (10, 1), (2, 1), (1, 1))
PAIR = Market([RYE, OAT], [("oat", "rye", (1, 1))])
ALL = helpers.some_markets()


def prices_for(market, seed):
    """Some prices, also below 0, that have nothing to do with the equilibrium."""
    chosen = helpers.steps(seed)
    return [Fraction(next(chosen) % 60 - 20, 1 + next(chosen) % 5) for _ in market.names()]


class Profit(unittest.TestCase):
    def test_written_out(self):
        # At 4 and 3 rye sells 10 - 6 + 4 = 8 and oat 10 - 8 + 3 = 5; the prices are those of oat and rye.
        self.assertEqual(profit(PAIR, "ann", [(4, 1), (3, 1)]), (16, 1))
        self.assertEqual(profit(PAIR, "bob", [(4, 1), (3, 1)]), (15, 1))
        self.assertEqual(profit(PAIR, "ann", [(4, 1), (1, 1)]), (0, 1))
        self.assertEqual(profit(PAIR, "ann", [(4, 1), (0, 1)]), (-14, 1))
        self.assertEqual(profit(PAIR, "bob", [(1, 2), (1, 3)]), (-14, 3))

    def test_of_several_products(self):
        both = PAIR.with_owners({"oat": "ann"})
        self.assertEqual(profit(both, "ann", [(4, 1), (3, 1)]), (31, 1))

    def test_is_the_sum_of_price_less_cost_times_demand(self):
        for turn, market in enumerate(ALL):
            prices = prices_for(market, turn)
            for owner in market.owners():
                found = profit(market, owner, ratios(prices))
                helpers.check_ratio(self, found)
                self.assertEqual(found, told(helpers.group_profit(market, market.owned(owner), prices)))

    def test_of_an_unknown_owner(self):
        for owner in ("rye", "oat", "an", "", "ANN", "cid"):
            raises(self, UnknownName, profit, PAIR, owner, [(4, 1), (3, 1)])


class Equilibrium(unittest.TestCase):
    def test_written_out(self):
        self.assertEqual(equilibrium(PAIR), [(4, 1), (4, 1)])
        # One owner of both: 4p - 2q = 11 both ways.
        self.assertEqual(equilibrium(PAIR.with_owners({"oat": "ann"})), [(11, 2), (11, 2)])
        # 4p - q = 10 + 2 * 3 for oat, and 4q - p = 12 for rye.
        self.assertEqual(equilibrium(PAIR.with_costs({"oat": (3, 1)})), [(76, 15), (64, 15)])
        # 4p - 2q = 16 - 1 for oat, and 4q - 2p = 12 - 3 for rye.
        self.assertEqual(
            equilibrium(PAIR.with_owners({"oat": "ann"}).with_costs({"oat": (3, 1)})), [(13, 2), (11, 2)])

    def test_one_product(self):
        self.assertEqual(equilibrium(Market([item("tea", "ann", 12, 2, 0)], [])), [(3, 1)])
        self.assertEqual(equilibrium(Market([item("tea", "ann", 12, 2, 1)], [])), [(7, 2)])
        self.assertEqual(equilibrium(Market([item("tea", "ann", 1, 1, 100)], [])), [(101, 2)])

    def test_products_without_a_rivalry_do_not_count_for_each_other(self):
        apart = Market([item("tea", "ann", 12, 2, 0), item("nut", "ann", 7, 1, 1)], [])
        self.assertEqual(equilibrium(apart), [(4, 1), (3, 1)])
        self.assertEqual(equilibrium(apart.with_owners({"nut": "bob"})), [(4, 1), (3, 1)])

    def test_no_owner_gains_by_other_prices_of_its_own(self):
        moves = (-3, Fraction(-1, 7), 0, Fraction(1, 100), 2)
        for market in ALL:
            prices = numbers(equilibrium(market))
            for owner in market.owners():
                group = market.owned(owner)
                self.assertTrue(helpers.is_best(market, group, prices))
                best = helpers.group_profit(market, group, prices)
                for change in itertools.islice(itertools.product(moves, repeat=len(group)), 30):
                    step = dict(zip(group, change))
                    others = [price + step.get(name, 0) for name, price in zip(market.names(), prices)]
                    found = helpers.group_profit(market, group, others)
                    self.assertEqual(found < best, any(change))
                    self.assertLessEqual(found, best)
                    self.assertEqual(profit(market, owner, ratios(others)), told(found))

    def test_ratios_in_lowest_terms_in_a_new_list(self):
        for market in ALL:
            before = helpers.looks(market)
            first = equilibrium(market)
            helpers.check_ratios(self, first)
            self.assertEqual(len(first), len(market.names()))
            kept = list(first)
            first.clear()
            self.assertEqual(equilibrium(market), kept)
            self.assertEqual(helpers.looks(market), before)

    def test_many_digits(self):
        great = 10 ** 400
        market = Market([item("tea", "ann", great, Fraction(1, great), 0)], [])
        self.assertEqual(equilibrium(market), [(great * great // 2, 1)])


class Judge(unittest.TestCase):
    def test_takes_the_equilibrium(self):
        for market in ALL:
            self.assertIs(judge(market, equilibrium(market)), True)

    def test_takes_no_list_with_changed_prices(self):
        for market in ALL:
            prices = numbers(equilibrium(market))
            count = len(prices)
            places = [*itertools.combinations(range(count), 1), *itertools.combinations(range(count), 2)]
            for group in [*places, tuple(range(count))]:
                for step in (1, Fraction(-1, 10 ** 30), Fraction(1, 3)):
                    others = [price + step if at in group else price for at, price in enumerate(prices)]
                    self.assertIs(judge(market, ratios(others)), False)

    def test_takes_no_list_of_another_length(self):
        for market in ALL:
            prices = equilibrium(market)
            for others in ([], prices[:-1], prices[1:], prices + prices[:1], prices + [(0, 1)], [(0, 1)] + prices):
                self.assertIs(judge(market, others), False)

    def test_takes_no_prices_in_another_order(self):
        market = PAIR.with_costs({"oat": (3, 1)})
        self.assertIs(judge(market, equilibrium(market)[::-1]), False)

    def test_takes_no_equilibrium_of_another_market(self):
        self.assertIs(judge(PAIR, equilibrium(PAIR.with_owners({"oat": "ann"}))), False)


class Lively(unittest.TestCase):
    def test_one_product_around_0(self):
        # The price is half of base / own and cost together, so the demand is 0 at a cost of 6.
        for cost, lively in ((0, True), (5, True), (Fraction(6 * 10 ** 30 - 1, 10 ** 30), True), (6, False),
                             (Fraction(6 * 10 ** 30 + 1, 10 ** 30), False), (7, False), (100, False)):
            self.assertIs(is_lively(Market([item("tea", "ann", 12, 2, cost)], [])), lively)

    def test_all_demands_count(self):
        for market in ALL:
            found = helpers.demands(market, numbers(equilibrium(market)))
            self.assertIs(is_lively(market), min(found) > 0)

    def test_there_are_both_kinds(self):
        self.assertEqual({is_lively(market) for market in ALL if len(market.names()) > 2}, {True, False})


class BuyersLoss(unittest.TestCase):
    def test_written_out(self):
        # From 4 and 4 to 5 and 4: the demands are 6 and 6, and then 4 and 7.
        self.assertEqual(buyers_loss(PAIR, [(4, 1), (4, 1)], [(5, 1), (4, 1)]), (5, 1))
        self.assertEqual(buyers_loss(PAIR, [(5, 1), (4, 1)], [(4, 1), (4, 1)]), (-5, 1))
        # From 4 and 4 to 5 and 6: the demands are 6 and 6, and then 6 and 3.
        self.assertEqual(buyers_loss(PAIR, [(4, 1), (4, 1)], [(5, 1), (6, 1)]), (15, 1))
        self.assertEqual(buyers_loss(PAIR, [(4, 1), (4, 1)], [(9, 2), (4, 1)]), (11, 4))

    def test_there_and_back_and_nowhere(self):
        for turn, market in enumerate(ALL):
            prices = ratios(prices_for(market, turn))
            others = ratios(prices_for(market, 1000 + turn))
            there = buyers_loss(market, prices, others)
            helpers.check_ratio(self, there)
            self.assertEqual(buyers_loss(market, others, prices), (-there[0], there[1]))
            self.assertEqual(buyers_loss(market, prices, list(prices)), (0, 1))

    def test_over_two_ways(self):
        for turn, market in enumerate(ALL):
            first, second, third = (ratios(prices_for(market, turn + start)) for start in (0, 2000, 3000))
            way = helpers.number(buyers_loss(market, first, second)) + helpers.number(
                buyers_loss(market, second, third))
            self.assertEqual(buyers_loss(market, first, third), told(way))

    def test_is_half_the_sum(self):
        for turn, market in enumerate(ALL):
            prices = prices_for(market, turn)
            others = prices_for(market, 500 + turn)
            sums = zip(prices, others, helpers.demands(market, prices), helpers.demands(market, others))
            half = sum((other - price) * (one + two) for price, other, one, two in sums) / 2
            self.assertEqual(buyers_loss(market, ratios(prices), ratios(others)), told(half))


class ArgumentsStay(unittest.TestCase):
    def test_lists_that_are_handed_in(self):
        for turn, market in enumerate(ALL):
            before = helpers.looks(market)
            field = list(market.products)
            prices = ratios(prices_for(market, turn))
            others = ratios(prices_for(market, 700 + turn))
            kept = (list(prices), list(others))
            judge(market, prices)
            profit(market, market.owners()[0], prices)
            buyers_loss(market, prices, others)
            is_lively(market)
            equilibrium(market)
            self.assertEqual((prices, others), kept)
            self.assertEqual(helpers.looks(market), before)
            self.assertEqual(market.products, field)


if __name__ == "__main__":
    unittest.main()

"""Markets: points 3.1 to 3.3, and the methods of the class."""

import copy
import itertools
import unittest
from fractions import Fraction

from rivalprices.errors import InvalidMarket, UnknownName
from rivalprices.market import Market

TEA = ("tea", "ann", (12, 1), (5, 1), (0, 1))
RYE = ("rye", "bob", (10, 1), (9, 2), (1, 3))
OAT = ("oat", "ann", (7, 2), (3, 1), (2, 1))
FIG = ("fig", "zoe", (1, 5), (2, 3), (0, 1))
PRODUCTS = [TEA, RYE, OAT, FIG]
RIVALRIES = [("tea", "rye", (1, 2)), ("oat", "tea", (1, 1)), ("rye", "fig", (1, 4))]
NAMES = ["fig", "oat", "rye", "tea"]
SORTED_RIVALRIES = [("fig", "rye", (1, 4)), ("oat", "tea", (1, 1)), ("rye", "tea", (1, 2))]


def told(value):
    """A fraction as a ratio."""
    return (value.numerator, value.denominator)


def many(count):
    """A market of this many products, each a rival of all others."""
    names = ["abcdef"[at] * (at + 1) for at in range(count)]
    products = [
        (name, "ownerone" if at % 2 else "ownertwo", (10 + at, 1), (count + at, 1), told(Fraction(at, 3)))
        for at, name in enumerate(names)
    ]
    rivalries = [(one, other, (1, 1 + len(other))) for one, other in itertools.combinations(names, 2)]
    return products, rivalries


def looks(market):
    """All that a market shows."""
    return copy.deepcopy((
        market.products, market.names(), market.owners(), market.rivalries(),
        [market.owned(owner) for owner in market.owners()],
        market.demands([(1, 1)] * len(market.names())),
    ))


class Contents(unittest.TestCase):
    def check_whole(self, market):
        self.assertEqual(market.products, [FIG, OAT, RYE, TEA])
        self.assertEqual(market.names(), NAMES)
        self.assertEqual(market.owners(), ["ann", "bob", "zoe"])
        self.assertEqual(market.rivalries(), SORTED_RIVALRIES)

    def test_any_order_of_products_and_rivalries_gives_the_same(self):
        for products in itertools.permutations(PRODUCTS):
            self.check_whole(Market(list(products), RIVALRIES))
        for rivalries in itertools.permutations(RIVALRIES):
            self.check_whole(Market(PRODUCTS, list(rivalries)))
        for turns in itertools.product((False, True), repeat=3):
            turned = [
                (other, one, cross) if turn else (one, other, cross)
                for (one, other, cross), turn in zip(RIVALRIES, turns)
            ]
            self.check_whole(Market(PRODUCTS, turned))

    def test_one_product(self):
        market = Market([TEA], [])
        self.assertEqual(market.products, [TEA])
        self.assertEqual(market.names(), ["tea"])
        self.assertEqual(market.owners(), ["ann"])
        self.assertEqual(market.rivalries(), [])

    def test_one_to_six_products(self):
        for count in range(1, 7):
            products, rivalries = many(count)
            market = Market(products[::-1], rivalries[::-1])
            self.assertEqual(market.products, products)
            self.assertEqual(market.names(), [product[0] for product in products])
            self.assertEqual(market.rivalries(), rivalries)
            self.assertEqual(market.owners(), ["ownerone", "ownertwo"] if count > 1 else ["ownertwo"])

    def test_the_kinds_of_values(self):
        market = Market(PRODUCTS, RIVALRIES)
        for found in (market.products, market.names(), market.owners(), market.rivalries(), market.owned("ann")):
            self.assertIs(type(found), list)
        self.assertEqual({type(row) for row in market.products + market.rivalries()}, {tuple})

    def test_a_name_may_be_that_of_an_owner(self):
        market = Market([("ann", "ann", (1, 1), (1, 1), (0, 1))], [])
        self.assertEqual(market.owned("ann"), ["ann"])

    def test_product(self):
        market = Market(PRODUCTS, RIVALRIES)
        for product in PRODUCTS:
            self.assertEqual(market.product(product[0]), product)

    def test_product_of_an_unknown_name(self):
        market = Market(PRODUCTS, RIVALRIES)
        for name in ("ann", "te", "teas", "", "TEA", "tea "):
            with self.assertRaises(UnknownName):
                market.product(name)

    def test_cross_holds_both_ways(self):
        market = Market(PRODUCTS, RIVALRIES)
        for one, other, cross in RIVALRIES:
            self.assertEqual(market.cross(one, other), cross)
            self.assertEqual(market.cross(other, one), cross)

    def test_cross_without_a_rivalry(self):
        market = Market(PRODUCTS, RIVALRIES)
        for one, other in (("tea", "fig"), ("oat", "rye"), ("oat", "fig"), ("tea", "tea")):
            self.assertEqual(market.cross(one, other), (0, 1))
            self.assertEqual(market.cross(other, one), (0, 1))

    def test_cross_of_unknown_names(self):
        market = Market(PRODUCTS, RIVALRIES)
        self.assertEqual(market.cross("tea", "sun"), (0, 1))
        self.assertEqual(market.cross("sun", "tea"), (0, 1))
        self.assertEqual(market.cross("sun", "air"), (0, 1))

    def test_owned(self):
        market = Market(PRODUCTS, RIVALRIES)
        self.assertEqual(market.owned("ann"), ["oat", "tea"])
        self.assertEqual(market.owned("bob"), ["rye"])
        self.assertEqual(market.owned("zoe"), ["fig"])

    def test_owned_by_an_unknown_owner(self):
        market = Market(PRODUCTS, RIVALRIES)
        for owner in ("tea", "an", "", "ANN"):
            self.assertEqual(market.owned(owner), [])


class Demands(unittest.TestCase):
    def expected(self, products, rivalries, prices):
        names = sorted(product[0] for product in products)
        at = {name: Fraction(*price) for name, price in zip(names, prices)}
        found = {name: Fraction(*base) - Fraction(*own) * at[name] for name, _, base, own, _ in products}
        for one, other, cross in rivalries:
            found[one] += Fraction(*cross) * at[other]
            found[other] += Fraction(*cross) * at[one]
        return [told(found[name]) for name in names]

    def test_written_out(self):
        market = Market(PRODUCTS, RIVALRIES)
        self.assertEqual(market.demands([(0, 1)] * 4), [(1, 5), (7, 2), (10, 1), (12, 1)])
        # fig: 1/5 - 2/3 * 3 + 1/4 * 1, oat: 7/2 - 3 * 1/2 + 1 * 2,
        # rye: 10 - 9/2 * 1 + 1/4 * 3 + 1/2 * 2, tea: 12 - 5 * 2 + 1 * 1/2 + 1/2 * 1
        self.assertEqual(
            market.demands([(3, 1), (1, 2), (1, 1), (2, 1)]), [(-31, 20), (4, 1), (29, 4), (3, 1)])

    def test_one_product(self):
        market = Market([TEA], [])
        for price, demand in (((0, 1), (12, 1)), ((1, 2), (19, 2)), ((12, 5), (0, 1)), ((3, 1), (-3, 1)),
                              ((-1, 1), (17, 1))):
            self.assertEqual(market.demands([price]), [demand])

    def test_prices_below_0_and_demands_below_0(self):
        market = Market(PRODUCTS, RIVALRIES)
        below = 0
        for prices in ([(-1, 1)] * 4, [(-7, 3), (100, 1), (-1, 9), (50, 1)], [(10 ** 40, 7)] * 4):
            found = market.demands(prices)
            self.assertEqual(found, self.expected(PRODUCTS, RIVALRIES, prices))
            below += sum(demand[0] < 0 for demand in found)
        self.assertGreater(below, 4)

    def test_one_to_six_products(self):
        for count in range(1, 7):
            products, rivalries = many(count)
            market = Market(products[::-1], rivalries)
            for start in range(-3, 4):
                prices = [told(Fraction(start * 3 + 2, 3 ** at)) for at in range(count)]
                self.assertEqual(market.demands(prices), self.expected(products, rivalries, prices))


class OtherOwnersAndCosts(unittest.TestCase):
    def test_with_owners(self):
        market = Market(PRODUCTS, RIVALRIES)
        before = looks(market)
        owners = {"tea": "bob", "fig": "new"}
        other = market.with_owners(owners)
        self.assertIsInstance(other, Market)
        self.assertEqual(other.owners(), ["ann", "bob", "new"])
        self.assertEqual(other.owned("bob"), ["rye", "tea"])
        self.assertEqual(
            other.products, [("fig", "new", *FIG[2:]), OAT, RYE, ("tea", "bob", *TEA[2:])])
        self.assertEqual(other.rivalries(), SORTED_RIVALRIES)
        self.assertEqual(looks(market), before)
        self.assertEqual(owners, {"tea": "bob", "fig": "new"})

    def test_with_costs(self):
        market = Market(PRODUCTS, RIVALRIES)
        before = looks(market)
        costs = {"rye": (0, 1), "oat": (99, 2)}
        other = market.with_costs(costs)
        self.assertIsInstance(other, Market)
        self.assertEqual(
            other.products, [FIG, (*OAT[:4], (99, 2)), (*RYE[:4], (0, 1)), TEA])
        self.assertEqual(other.rivalries(), SORTED_RIVALRIES)
        self.assertEqual(other.owners(), market.owners())
        self.assertEqual(looks(market), before)
        self.assertEqual(costs, {"rye": (0, 1), "oat": (99, 2)})

    def test_with_nothing_other_it_is_a_new_market_that_looks_the_same(self):
        market = Market(PRODUCTS, RIVALRIES)
        for other in (market.with_owners({}), market.with_costs({})):
            self.assertIsNot(other, market)
            self.assertEqual(looks(other), looks(market))
            other.products.clear()
            self.assertEqual(market.products, [FIG, OAT, RYE, TEA])

    def test_all_owners_become_one(self):
        market = Market(PRODUCTS, RIVALRIES).with_owners({name: "one" for name in NAMES})
        self.assertEqual(market.owners(), ["one"])
        self.assertEqual(market.owned("one"), NAMES)

    def test_an_owner_that_is_no_name(self):
        market = Market(PRODUCTS, RIVALRIES)
        before = looks(market)
        for owner in ("", "Ann", "a b", "ann1", "abcdefghijklm"):
            for name in NAMES:
                with self.assertRaises(InvalidMarket):
                    market.with_owners({name: owner})
        self.assertEqual(market.with_owners({"tea": "abcdefghijkl"}).owned("abcdefghijkl"), ["tea"])
        self.assertEqual(looks(market), before)

    def test_a_cost_below_0(self):
        market = Market(PRODUCTS, RIVALRIES)
        before = looks(market)
        for cost in ((-1, 1), (-1, 10 ** 30)):
            for name in NAMES:
                with self.assertRaises(InvalidMarket):
                    market.with_costs({name: cost})
        self.assertEqual(market.with_costs({"tea": (1, 10 ** 30)}).product("tea")[4], (1, 10 ** 30))
        self.assertEqual(looks(market), before)

    def test_names_that_are_no_products(self):
        market = Market(PRODUCTS, RIVALRIES)
        before = looks(market)
        for name in ("ann", "sun", "", "TEA"):
            for table in ({name: "ann"}, {"tea": "ann", name: "ann"}, {"tea": "Ann", name: "ann"}):
                with self.assertRaises(UnknownName):
                    market.with_owners(table)
            for table in ({name: (1, 1)}, {"tea": (1, 1), name: (1, 1)}, {"tea": (-1, 1), name: (1, 1)}):
                with self.assertRaises(UnknownName):
                    market.with_costs(table)
        self.assertEqual(looks(market), before)


class NothingIsShared(unittest.TestCase):
    def test_arguments_stay_as_they_are(self):
        products = list(PRODUCTS)
        rivalries = list(RIVALRIES)
        prices = [(1, 1), (2, 1), (-3, 1), (4, 1)]
        market = Market(products, rivalries)
        market.demands(prices)
        self.assertEqual(products, PRODUCTS)
        self.assertEqual(rivalries, RIVALRIES)
        self.assertEqual(prices, [(1, 1), (2, 1), (-3, 1), (4, 1)])

    def test_a_change_of_the_arguments_changes_nothing(self):
        products = list(PRODUCTS)
        rivalries = list(RIVALRIES)
        market = Market(products, rivalries)
        before = looks(market)
        products.clear()
        rivalries.clear()
        self.assertEqual(looks(market), before)

    def test_a_change_of_a_returned_list_changes_nothing(self):
        market = Market(PRODUCTS, RIVALRIES)
        before = looks(market)
        prices = [(1, 1)] * 4
        calls = (
            market.names, market.owners, market.rivalries, lambda: market.owned("ann"),
            lambda: market.owned("nobody"), lambda: market.demands(prices),
        )
        for call in calls:
            first = call()
            kept = list(first)
            first.reverse()
            first.append("more")
            self.assertEqual(call(), kept)
            self.assertEqual(looks(market), before)

    def test_a_change_of_the_field_changes_nothing_else(self):
        market = Market(PRODUCTS, RIVALRIES)
        before = looks(market)[1:]
        market.products.clear()
        self.assertEqual(market.names(), NAMES)
        self.assertEqual(market.product("tea"), TEA)
        self.assertEqual(looks(market)[1:], before)
        self.assertEqual(market.with_owners({}).products, [FIG, OAT, RYE, TEA])


if __name__ == "__main__":
    unittest.main()

"""The errors of a market, and their order: point 3.4, with the limits of 3.1 and 3.2."""

import unittest

from rivalprices.errors import DuplicateName, InvalidMarket, PriceError, UnknownName
from rivalprices.market import Market

TINY = (1, 10 ** 30)
NO_NAMES = (
    "", "A", "Tea", "teA", "te a", " tea", "tea ", "tea\n", "tea1", "1", "te-a", "te_a", "te.a", "t\u00e9", "\u00df",
    "\u0430", "`", "{", "abcdefghijklm", "a" * 13, "a" * 40,
)
GOOD_NAMES = ("a", "z", "az", "abcdefghijkl", "z" * 12, "mnopqrstuvwx", "yz")


def item(name, owner="ann", base=(10, 1), own=(5, 1), cost=(1, 1)):
    return (name, owner, base, own, cost)


A = item("a")
B = item("b", "bob")
C = item("c", "cid")
SIX = [item(name) for name in "abcdef"]


class Errors(unittest.TestCase):
    def refused(self, error, products, rivalries=()):
        with self.subTest(products=products, rivalries=rivalries):
            with self.assertRaises(PriceError) as caught:
                Market(list(products), list(rivalries))
            self.assertIs(type(caught.exception), error)

    def accepted(self, products, rivalries=()):
        with self.subTest(products=products, rivalries=rivalries):
            market = Market(list(products), list(rivalries))
            self.assertEqual(len(market.products), len(products))


class NumberOfProducts(Errors):
    def test_no_products(self):
        self.refused(InvalidMarket, [])
        self.refused(InvalidMarket, [], [("a", "b", (1, 1))])

    def test_one_to_six(self):
        for count in range(1, 7):
            self.accepted(SIX[:count])

    def test_more_than_six(self):
        self.refused(InvalidMarket, [*SIX, item("g")])
        self.refused(InvalidMarket, [*SIX, item("g"), item("h")])

    def test_ahead_of_all_else(self):
        self.refused(InvalidMarket, [*SIX, item("a")])
        self.refused(InvalidMarket, [*SIX, item("g")], [("a", "x", (1, 1))])
        self.refused(DuplicateName, [*SIX[:5], item("a")])


class Products(Errors):
    def test_names_of_products(self):
        for name in NO_NAMES:
            self.refused(InvalidMarket, [item(name)])
            self.refused(InvalidMarket, [item("a"), item(name), item("b")])
        for name in GOOD_NAMES:
            self.accepted([item(name)])

    def test_names_of_owners(self):
        for owner in NO_NAMES:
            self.refused(InvalidMarket, [item("a", owner)])
            self.refused(InvalidMarket, [item("a"), item("b", owner)])
        for owner in GOOD_NAMES:
            self.accepted([item("a", owner)])

    def test_a_name_that_is_there(self):
        self.refused(DuplicateName, [A, A])
        self.refused(DuplicateName, [A, B, C, item("b", "dan", (1, 1), (1, 1), (0, 1))])
        self.accepted([A, B, C])

    def test_ratios_out_of_range(self):
        for ratio in ((0, 1), (-1, 1), (-1, 10 ** 30)):
            self.refused(InvalidMarket, [item("a", base=ratio)])
            self.refused(InvalidMarket, [item("a", own=ratio)])
            self.refused(InvalidMarket, [A, item("b", base=ratio), C])
            self.refused(InvalidMarket, [A, item("b", own=ratio), C])
        self.accepted([item("a", base=TINY)])
        self.accepted([item("a", own=TINY)])

    def test_costs(self):
        self.refused(InvalidMarket, [item("a", cost=(-1, 1))])
        self.refused(InvalidMarket, [item("a", cost=(-1, 10 ** 30))])
        self.accepted([item("a", cost=(0, 1))])
        self.accepted([item("a", cost=TINY)])
        self.accepted([item("a", cost=(10 ** 30, 1))])

    def test_the_order_within_a_product(self):
        self.refused(InvalidMarket, [A, item("a", "Bob")])
        self.refused(InvalidMarket, [A, item("a", "")])
        self.refused(DuplicateName, [A, item("a", base=(0, 1))])
        self.refused(DuplicateName, [A, item("a", own=(-1, 1))])
        self.refused(DuplicateName, [A, item("a", cost=(-1, 1))])

    def test_the_first_product_that_is_wrong_counts(self):
        self.refused(InvalidMarket, [item("a", base=(0, 1)), item("a")])
        self.refused(InvalidMarket, [item("a", cost=(-1, 1)), item("a")])
        self.refused(DuplicateName, [A, A, item("B")])
        self.refused(DuplicateName, [A, A, item("b", base=(0, 1))])
        self.refused(InvalidMarket, [A, item("B"), A])
        self.refused(InvalidMarket, [A, item("b", own=(0, 1)), A])

    def test_products_are_told_ahead_of_rivalries(self):
        self.refused(InvalidMarket, [A, item("B")], [("a", "x", (1, 1))])
        self.refused(DuplicateName, [A, A], [("a", "x", (1, 1))])
        self.refused(InvalidMarket, [A, item("b", cost=(-1, 1))], [("a", "x", (1, 1))])
        self.refused(DuplicateName, [A, B, A], [("a", "b", (0, 1))])

    def test_in_the_order_in_which_they_are_told(self):
        # By names the bad cost comes ahead of the twin, as they are told behind it.
        self.refused(DuplicateName, [item("z"), item("z"), item("a", cost=(-1, 1))])
        self.refused(InvalidMarket, [item("z", cost=(-1, 1)), item("a"), item("a")])


class Rivalries(Errors):
    def test_good_ones(self):
        self.accepted([A, B, C], [("a", "b", (1, 1)), ("c", "b", (2, 1)), ("c", "a", TINY)])

    def test_a_product_that_is_not_there(self):
        for one, other in (("a", "x"), ("x", "a"), ("x", "y"), ("x", "x"), ("a", "ann"), ("a", ""), ("a", "B")):
            self.refused(UnknownName, [A, B], [(one, other, (1, 1))])
        self.refused(UnknownName, [A], [("a", "b", (1, 1))])

    def test_twice_the_same_product(self):
        self.refused(InvalidMarket, [A, B], [("a", "a", (1, 1))])
        self.refused(InvalidMarket, [A, B], [("a", "b", (1, 1)), ("b", "b", (1, 1))])
        self.refused(InvalidMarket, [A, B], [("b", "b", (1, 1)), ("b", "b", (1, 1))])

    def test_a_cross_that_is_not_above_0(self):
        for cross in ((0, 1), (-1, 1), (-1, 10 ** 30)):
            self.refused(InvalidMarket, [A, B], [("a", "b", cross)])
            self.refused(InvalidMarket, [A, B, C], [("a", "c", (1, 1)), ("b", "a", cross)])
        self.accepted([A, B], [("a", "b", TINY)])

    def test_a_pair_that_is_there(self):
        self.refused(DuplicateName, [A, B], [("a", "b", (1, 1)), ("a", "b", (1, 1))])
        self.refused(DuplicateName, [A, B], [("a", "b", (1, 1)), ("b", "a", (1, 1))])
        self.refused(DuplicateName, [A, B], [("b", "a", (1, 1)), ("a", "b", (2, 1))])
        self.refused(DuplicateName, [A, B, C], [("b", "a", (1, 1)), ("a", "c", (1, 1)), ("b", "a", (1, 1))])
        self.accepted([A, B, C], [("b", "a", (1, 1)), ("a", "c", (1, 1)), ("c", "b", (1, 1))])

    def test_the_order_within_a_rivalry(self):
        self.refused(UnknownName, [A, B], [("a", "x", (0, 1))])
        self.refused(UnknownName, [A, B], [("x", "x", (0, 1))])
        self.refused(InvalidMarket, [A, B], [("a", "b", (1, 1)), ("a", "b", (0, 1))])
        self.refused(InvalidMarket, [A, B], [("a", "b", (1, 1)), ("b", "a", (-1, 1))])

    def test_the_first_rivalry_that_is_wrong_counts(self):
        twin = [("a", "b", (1, 1)), ("b", "a", (1, 1))]
        self.refused(DuplicateName, [A, B], [*twin, ("a", "x", (1, 1))])
        self.refused(DuplicateName, [A, B], [*twin, ("a", "a", (1, 1))])
        self.refused(UnknownName, [A, B], [("a", "x", (1, 1)), *twin])
        self.refused(UnknownName, [A, B], [("a", "x", (1, 1)), ("a", "a", (1, 1))])
        self.refused(InvalidMarket, [A, B], [("a", "a", (1, 1)), ("a", "x", (1, 1))])
        self.refused(InvalidMarket, [A, B], [("a", "b", (0, 1)), *twin])
        self.refused(UnknownName, [A, B], [twin[0], ("a", "x", (1, 1)), twin[1]])


class OwnGreatEnough(Errors):
    def star(self, own):
        """Each of the products b, c and d takes 1 from a."""
        products = [item("a", own=own), B, C, item("d")]
        return products, [("a", "b", (1, 1)), ("c", "a", (1, 2)), ("d", "a", (1, 3))]

    def test_equal_to_the_sum_and_below_it(self):
        for own in ((11, 6), (11 * 10 ** 30 - 1, 6 * 10 ** 30), (1, 1), TINY):
            self.refused(InvalidMarket, *self.star(own))

    def test_just_above_the_sum(self):
        self.accepted(*self.star((11 * 10 ** 30 + 1, 6 * 10 ** 30)))
        self.accepted(*self.star((2, 1)))

    def test_each_product_counts(self):
        for short in "abcdef":
            products = [item(name, own=(5, 1) if name == short else (6, 1)) for name in "abcdef"]
            pairs = [(one, other, (1, 1)) for one in "abcdef" for other in "abcdef" if one < other]
            self.refused(InvalidMarket, products, pairs)
            self.accepted(products, pairs[1:] if short in "ab" else [p for p in pairs if p[:2] != ("a", short)])

    def test_two_products(self):
        pair = [("a", "b", (5, 1))]
        self.refused(InvalidMarket, [A, B], pair)
        self.refused(InvalidMarket, [item("a", own=(6, 1)), B], pair)
        self.refused(InvalidMarket, [A, item("b", own=(6, 1))], pair)
        self.accepted([item("a", own=(6, 1)), item("b", own=(6, 1))], pair)

    def test_behind_all_else(self):
        great = ("a", "b", (50, 1))
        self.refused(UnknownName, [A, B], [great, ("a", "x", (1, 1))])
        self.refused(DuplicateName, [A, B], [great, ("b", "a", (1, 1))])
        self.refused(DuplicateName, [A, B, A], [great])
        self.refused(InvalidMarket, [A, B], [great])


if __name__ == "__main__":
    unittest.main()

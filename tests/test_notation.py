"""Texts of ratios and markets: points 6.1 to 6.3."""

import unittest
from fractions import Fraction

import helpers
from helpers import item, raises, told
from rivalprices.errors import InvalidLine, InvalidMarket, UnknownName
from rivalprices.market import Market
from rivalprices.notation import format_market, format_ratio, parse_market, parse_ratio

PAIRS = (
    ((0, 1), "0"), ((1, 1), "1"), ((-1, 1), "-1"), ((7, 1), "7"), ((10, 1), "10"), ((-120, 1), "-120"),
    ((1, 2), "1/2"), ((-1, 2), "-1/2"), ((22, 7), "22/7"), ((-100, 9), "-100/9"), ((9, 100), "9/100"),
    ((10 ** 17, 1), "1" + "0" * 17), ((10 ** 18 - 1, 1), "9" * 18), ((1 - 10 ** 18, 1), "-" + "9" * 18),
    ((1, 10 ** 18 - 1), "1/" + "9" * 18), ((10 ** 18 - 1, 10 ** 18 - 2), "9" * 18 + "/" + "9" * 17 + "8"),
    ((2 - 10 ** 18, 10 ** 18 - 1), "-" + "9" * 17 + "8/" + "9" * 18),
)
NO_RATIOS = (
    "", " ", "-", "/", "-/", "x", "1x", "x1", "one", "--1", "- 1", "-0", "-0/1", "0/1", "0/2", "00", "01", "-01",
    "007", "1/1", "5/1", "-5/1", "1/0", "0/0", "-1/0", "1/-2", "-1/-2", "1/01", "1/02", "01/2", "2/4", "-2/4", "6/3",
    "10/100", "+1", "+1/2", "1/+2", " 1", "1 ", "1 /2", "1/ 2", "1 / 2", "1\n", "\n1", "1/2\n", "1\n/2", "1\t", "1/2/3",
    "1//2", "/2", "1/", "-/2", "1.0", ".5", "1,000", "1_000", "1e3", "0x1", "1\u0660", "\u0661", "\u00b2", "\uff11",
    "\u00bd", "\u22121", "1\u2044" + "2", "None", "True", "(1, 2)",
)


class WrittenRatios(unittest.TestCase):
    def test_written_and_read(self):
        for value, text in PAIRS:
            with self.subTest(text=text):
                self.assertEqual(format_ratio(value), text)
                self.assertEqual(parse_ratio(text), value)
                helpers.check_ratio(self, parse_ratio(text))

    def test_any_number_of_digits_is_written(self):
        for many in (17, 18, 19, 35, 36, 37, 54, 400, 4299, 4300, 4301, 9000):
            one = "1" + "0" * (many - 1)
            last = "1" + "0" * (many - 2) + "1"
            self.assertEqual(format_ratio((10 ** (many - 1), 1)), one)
            self.assertEqual(format_ratio((-10 ** (many - 1), 1)), "-" + one)
            self.assertEqual(format_ratio((10 ** many - 1, 1)), "9" * many)
            self.assertEqual(format_ratio((10 ** (many - 1), 10 ** (many - 1) + 1)), f"{one}/{last}")
            self.assertEqual(format_ratio((1, 10 ** many - 1)), "1/" + "9" * many)

    def test_as_python_writes_numbers(self):
        for number in (3 ** 40, 7 ** 100, 2 ** 59, 2 ** 60, 2 ** 63, 2 ** 64, 10 ** 36 + 10 ** 18, 5 * 10 ** 17,
                       12 * 10 ** 18 + 34):
            self.assertEqual(format_ratio((number, 1)), str(number))
            self.assertEqual(format_ratio((-number, 1)), str(-number))

    def test_18_and_19_digits_are_read(self):
        for text in ("1" + "0" * 18, "9" * 19, "-" + "9" * 19, "-1" + "0" * 18, "1/1" + "0" * 18, "1/" + "9" * 19,
                     "1" * 19 + "/" + "9" * 18, "-" + "1" * 18 + "/" + "1" * 18 + "2", "9" * 5000, "1/" + "9" * 5000,
                     "0" * 19, "0" * 18, "0" * 17 + "1", "0" * 5000):
            self.assertEqual(raises(self, InvalidLine, parse_ratio, text).line, 1)
        top, bottom = "1" * 18, "1" * 17 + "2"
        self.assertEqual(parse_ratio(f"-{top}/{bottom}"), told(Fraction(-int(top), int(bottom))))

    def test_texts_that_write_no_ratio(self):
        for text in NO_RATIOS:
            with self.subTest(text=text):
                self.assertEqual(raises(self, InvalidLine, parse_ratio, text).line, 1)

    def test_all_short_texts(self):
        # Of these texts just those are read that a ratio is written as.
        signs = "-/012x"
        texts = [""]
        for _ in range(5):
            texts = [*texts, *{text + sign for text in texts for sign in signs}]
        written = {
            format_ratio(told(Fraction(n, d))) for n in range(-2222, 2223) for d in (1, 2, 10, 11, 12, 20, 21, 22)
        }
        written |= {
            format_ratio(told(Fraction(n, d))) for n in range(-22, 23) for d in range(1, 223)
        } | {format_ratio((n, 1)) for n in range(-2222, 22223)}
        for text in set(texts):
            try:
                value = parse_ratio(text)
            except InvalidLine:
                self.assertNotIn(text, written)
            else:
                self.assertEqual(format_ratio(value), text)
                self.assertIn(text, written)


TEA = "product tea ann 12 5 0"
OAT = "product oat bob 7/2 3 2"
FIG = "product fig zoe 1/5 2/3 10"
FIG_OAT = "rival fig oat 1/4"
FIG_TEA = "rival fig tea 1/3"
OAT_TEA = "rival oat tea 1"
WHOLE = (FIG, OAT, TEA, FIG_OAT, FIG_TEA, OAT_TEA)


def text_of(*lines):
    return "".join(line + "\n" for line in lines)


class WrittenMarkets(unittest.TestCase):
    def test_written_out(self):
        market = Market(
            [item("tea", "ann", 12, 5, 0), item("fig", "zoe", Fraction(1, 5), Fraction(2, 3), 10),
             item("oat", "bob", Fraction(7, 2), 3, 2)],
            [("tea", "oat", (1, 1)), ("tea", "fig", (1, 3)), ("oat", "fig", (1, 4))],
        )
        self.assertEqual(format_market(market), text_of(*WHOLE))
        self.assertEqual(helpers.looks(parse_market(text_of(*WHOLE))), helpers.looks(market))

    def test_one_product(self):
        market = Market([item("tea", "ann", 12, 2, 0)], [])
        self.assertEqual(format_market(market), "product tea ann 12 2 0\n")
        self.assertEqual(parse_market("product tea ann 12 2 0\n").products, market.products)

    def test_written_and_read_back(self):
        for market in helpers.some_markets():
            before = helpers.looks(market)
            text = format_market(market)
            self.assertEqual(text.count("\n"), len(market.names()) + len(market.rivalries()))
            found = parse_market(text)
            self.assertIsInstance(found, Market)
            self.assertEqual(helpers.looks(found), before)
            self.assertEqual(found.products, market.products)
            self.assertEqual(format_market(found), text)
            self.assertEqual(helpers.looks(market), before)

    def test_long_names(self):
        text = "product abcdefghijkl mnopqrstuvwx 1 1 0\nproduct z z 1 1 0\nrival abcdefghijkl z 1/2\n"
        self.assertEqual(format_market(parse_market(text)), text)

    def test_the_order_is_that_of_the_names(self):
        text = text_of("product a x 9 9 0", "product aa x 9 9 0", "product ab x 9 9 0", "product b x 9 9 0",
                       "rival a aa 1", "rival a b 1", "rival aa ab 1", "rival aa b 1", "rival ab b 1")
        self.assertEqual(format_market(parse_market(text)), text)

    def test_long_ratios_are_written_and_not_read(self):
        market = Market([item("tea", "ann", 10 ** 18, 2, 0)], [])
        text = format_market(market)
        self.assertEqual(text, "product tea ann 1000000000000000000 2 0\n")
        self.assertEqual(raises(self, InvalidLine, parse_market, text).line, 1)
        market = Market([item("ale", "ann"), item("tea", "ann", 1, 1, Fraction(1, 10 ** 5000))], [])
        self.assertEqual(
            format_market(market), "product ale ann 10 5 1\nproduct tea ann 1 1 1/1" + "0" * 5000 + "\n")
        self.assertEqual(raises(self, InvalidLine, parse_market, format_market(market)).line, 2)


class WrongLines(unittest.TestCase):
    def refused(self, number, text):
        with self.subTest(text=text):
            self.assertEqual(raises(self, InvalidLine, parse_market, text).line, number)

    def test_lines_that_are_none(self):
        wrong = [
            "", " ", "product", "rival", "x", "product ", "tea", "#", "\r", "\t", "= " + TEA, "Product tea ann 12 5 0",
            "PRODUCT tea ann 12 5 0", "products tea ann 12 5 0", "product tea ann 12 5", "product tea ann 12 5 0 0",
            " product tea ann 12 5 0", "product tea ann 12 5 0 ", "product  tea ann 12 5 0", "product tea ann 12  5 0",
            "product\ttea ann 12 5 0", "product tea ann 12 5 0\r", "product tea ann 12 5\x0b0",
            "product tea ann 12 5\u00a00", "product tea ann 12, 5, 0", "product tea  12 5 0", "tea ann 12 5 0",
            "rival fig tea", "rival fig tea 1 1", "rival fig tea ", "rival  fig tea 1", "Rival fig tea 1",
            "rivalry fig tea 1", "fig tea 1", "rival fig  tea 1", "product fig tea 1", "rival tea ann 12 5 0", "market",
            "prices",
        ]
        for name in ("Tea", "tea1", "t-a", "", "abcdefghijklm", "t\u00e9a", "tea_", "1", "=", "12/5"):
            wrong.extend([f"product {name} ann 12 5 0", f"product tea {name} 12 5 0", f"rival {name} tea 1",
                          f"rival fig {name} 1"])
        for ratio in ("", "x", "01", "-0", "2/4", "5/1", "1/0", "+1", "1.5", "9" * 19, "1/" + "9" * 19, "1/", "/2",
                      "tea"):
            wrong.extend([f"product tea ann {ratio} 5 0", f"product tea ann 12 {ratio} 0",
                          f"product tea ann 12 5 {ratio}", f"rival fig tea {ratio}"])
        for line in wrong:
            self.refused(1, text_of(line))
            self.refused(1, text_of(line, *WHOLE))
            self.refused(3, text_of(FIG, OAT, line, FIG_OAT))
            self.refused(5, text_of(FIG, OAT, TEA, FIG_OAT, line, OAT_TEA))
            self.refused(7, text_of(*WHOLE, line))
            # The first of several is told.
            self.refused(2, text_of(FIG, line, TEA, line))

    def test_the_greater_name_or_the_same_as_the_first_one(self):
        for line in ("rival tea fig 1/3", "rival fig fig 1/3", "rival b a 1", "rival a a 1"):
            self.refused(1, text_of(line))
            self.refused(4, text_of(FIG, OAT, TEA, line))
            self.refused(5, text_of(FIG, OAT, TEA, FIG_OAT, line))

    def test_a_product_behind_a_rivalry(self):
        self.refused(4, text_of(FIG, OAT, FIG_OAT, TEA))
        self.refused(2, text_of(FIG_OAT, FIG))
        self.refused(7, text_of(*WHOLE, "product zoo ann 1 1 0"))
        self.refused(4, text_of(FIG, OAT, FIG_OAT, TEA, FIG_OAT))
        self.refused(2, text_of("rival a b 1", "product z z 1 1 0"))

    def test_products_out_of_order(self):
        self.refused(2, text_of(OAT, FIG))
        self.refused(2, text_of(TEA, OAT, FIG))
        self.refused(3, text_of(FIG, TEA, OAT))
        self.refused(3, text_of(FIG, TEA, OAT, FIG))
        self.refused(2, text_of("product aa x 1 1 0", "product a x 1 1 0"))

    def test_rivalries_out_of_order(self):
        self.refused(5, text_of(FIG, OAT, TEA, FIG_TEA, FIG_OAT))
        self.refused(5, text_of(FIG, OAT, TEA, OAT_TEA, FIG_TEA))
        self.refused(6, text_of(FIG, OAT, TEA, FIG_OAT, OAT_TEA, FIG_TEA))
        self.refused(2, text_of("rival b c 1", "rival a d 1"))
        self.refused(2, text_of("rival a c 1", "rival a b 1"))

    def test_a_second_time(self):
        self.refused(2, text_of(FIG, FIG))
        self.refused(3, text_of(FIG, OAT, "product oat new 1 1 0"))
        self.refused(5, text_of(FIG, OAT, TEA, FIG_OAT, FIG_OAT))
        self.refused(6, text_of(FIG, OAT, TEA, FIG_OAT, FIG_TEA, "rival fig tea 1/9"))

    def test_a_last_line_without_a_newline(self):
        whole = text_of(*WHOLE)
        self.refused(6, whole[:-1])
        self.refused(7, whole + " ")
        self.refused(7, whole + "x")
        self.refused(1, TEA)
        self.refused(1, "x")
        self.refused(2, "\nx")
        # That counts ahead of everything else, also of lines above that are wrong.
        self.refused(3, "x\nx\nx")
        self.refused(4, text_of(TEA, OAT, FIG) + FIG_OAT)
        self.refused(2, text_of(FIG_OAT) + FIG)
        self.refused(8, text_of(*WHOLE, "x") + TEA)

    def test_more_than_enough_newlines(self):
        self.refused(1, "\n")
        self.refused(1, "\n" + text_of(*WHOLE))
        self.refused(7, text_of(*WHOLE) + "\n")
        self.refused(2, text_of(FIG) + "\n" + text_of(OAT))

    def test_other_ends_of_lines(self):
        for end in ("\r\n", "\x0b\n", "\x0c\n", "\u2028\n", "\u0085\n"):
            self.refused(1, TEA + end)
        for end in ("\r", "\x0b", "\x0c", "\x1c", "\u0085", "\u2028"):
            self.refused(1, FIG + end + OAT + "\n")
            self.refused(2, text_of(FIG, OAT + end + TEA))

    def test_good_ones_near_by(self):
        for text in (text_of(FIG), text_of(FIG, OAT), text_of(FIG, TEA), text_of(FIG, OAT, FIG_OAT),
                     text_of(FIG, OAT, TEA, FIG_OAT, OAT_TEA), text_of(*WHOLE)):
            self.assertEqual(format_market(parse_market(text)), text)


class ErrorsOfTheMarket(unittest.TestCase):
    def refused(self, error, *lines):
        with self.subTest(lines=lines):
            raises(self, error, parse_market, text_of(*lines))

    def test_the_empty_text(self):
        raises(self, InvalidMarket, parse_market, "")

    def test_rivalries_alone(self):
        self.refused(InvalidMarket, "rival a b 1")
        self.refused(InvalidMarket, "rival a b 0")

    def test_too_many_products(self):
        lines = [f"product {name} ann 10 5 1" for name in "abcdefg"]
        self.refused(InvalidMarket, *lines)
        self.refused(InvalidMarket, *lines, "rival x y 1")
        parse_market(text_of(*lines[:6]))

    def test_ratios_out_of_range(self):
        for line in ("product tea ann 0 5 0", "product tea ann -1 5 0", "product tea ann 12 0 0",
                     "product tea ann 12 -1/2 0", "product tea ann 12 5 -1"):
            self.refused(InvalidMarket, line)
            self.refused(InvalidMarket, OAT, line, "rival oat x 1")
        for cross in ("0", "-1", "-1/9"):
            self.refused(InvalidMarket, FIG, OAT, f"rival fig oat {cross}")

    def test_products_that_are_not_there(self):
        self.refused(UnknownName, FIG, OAT, "rival fig tea 1/3")
        self.refused(UnknownName, FIG, OAT, "rival fig oat 1/4", "rival oat tea 0")
        self.refused(UnknownName, FIG, "rival a b 1")

    def test_own_not_great_enough(self):
        self.refused(InvalidMarket, FIG, OAT, "rival fig oat 2/3")
        self.refused(InvalidMarket, FIG, OAT, "rival fig oat 700")
        parse_market(text_of(FIG, OAT, "rival fig oat 199/300"))

    def test_behind_the_errors_of_the_lines(self):
        lines = [f"product {name} ann 10 5 1" for name in "abcdefgh"]
        texts = [(9, text_of(*lines, "x")), (3, text_of(FIG, "rival x y 1", "rival y x 1"))]
        for wrong in ("product tea ann 0 5 0", "product tea ann 12 -5 0"):
            texts.extend([(3, text_of(OAT, wrong, "x")), (2, text_of(wrong, FIG)), (1, wrong),
                          (3, text_of(wrong, OAT_TEA, "rival oat tea 2"))])
        for number, text in texts:
            self.assertEqual(raises(self, InvalidLine, parse_market, text).line, number)


if __name__ == "__main__":
    unittest.main()

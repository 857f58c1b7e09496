"""What holds over the whole program: errors of just one class, arguments that stay, lists that are new ones."""

import copy
import unittest

import helpers
from helpers import item, raises
from rivalprices import errors, market, matrix, mergers, notation, prices, ratio, session

PAIR = market.Market([item("oat", "ann", 10, 2, 1), item("rye", "bob", 10, 2, 1)], [("oat", "rye", (1, 1))])
THREE = market.Market([item("oat", "ann"), item("rye", "bob"), item("tea", "cid")], [("oat", "rye", (1, 1))])
TEA = "product tea ann 12 2 0\n"


class EachError(unittest.TestCase):
    """Each error is raised as just its own class, by each function that tells it."""

    def check(self, error, *calls):
        for call, *arguments in calls:
            with self.subTest(call=call.__name__, arguments=arguments):
                raises(self, error, call, *arguments)

    def test_ratios(self):
        self.check(
            errors.InvalidRatio, (ratio.ratio, True), (ratio.ratio, 1, False), (ratio.ratio, "1"), (ratio.ratio, 1, 0),
            (ratio.ratio, 1, -1), (ratio.ratio, None), (ratio.ratio, 1, (1, 1)), (ratio.over, (1, 1), (0, 1)),
            (ratio.over, (0, 1), (0, 1)),
        )

    def test_equations(self):
        self.check(
            errors.Singular, (matrix.solve, [[(0, 1)]], [(0, 1)]), (matrix.solve, [[(0, 1)]], [(1, 1)]),
            (matrix.solve, [[(1, 1), (2, 1)], [(2, 1), (4, 1)]], [(1, 1), (2, 1)]),
            (matrix.solve, [[(1, 1), (2, 1)], [(2, 1), (4, 1)]], [(1, 1), (3, 1)]),
        )

    def test_markets(self):
        twice = [item("oat", "ann"), item("oat", "bob")]
        self.check(
            errors.InvalidMarket, (market.Market, [], []), (market.Market, [item("Oat", "ann")], []),
            (market.Market, [item("oat", "ann", own=0)], []), (PAIR.with_owners, {"oat": ""}),
            (PAIR.with_costs, {"oat": (-1, 1)}), (market.Market, THREE.products, [("oat", "oat", (1, 1))]),
            (market.Market, THREE.products, [("oat", "rye", (5, 1))]), (mergers.merged, PAIR, "ann", "bob", "x y"),
            (notation.parse_market, ""), (notation.parse_market, "product tea ann 12 0 0\n"), (session.Session, ""),
        )
        self.check(
            errors.DuplicateName, (market.Market, twice, []),
            (market.Market, THREE.products, [("oat", "rye", (1, 1)), ("rye", "oat", (1, 1))]),
        )

    def test_names(self):
        at = [(1, 1), (1, 1)]
        self.check(
            errors.UnknownName, (market.Market, THREE.products, [("oat", "zoo", (1, 1))]), (PAIR.product, "ann"),
            (PAIR.with_owners, {"zoo": "ann"}), (PAIR.with_costs, {"zoo": (1, 1)}), (prices.profit, PAIR, "oat", at),
            (mergers.merged, PAIR, "ann", "zoo", "new"), (mergers.remedy, PAIR, "zoo", "bob", "new", "new"),
            (mergers.cost_cut, PAIR, "zoo", "zoo", "new"), (mergers.alone, PAIR, ["zoo"]),
            (mergers.smallest_market, PAIR, "ann", (0, 1)),
            (notation.parse_market, TEA + "rival oat tea 1\n"), (session.Session, TEA + "rival oat tea 1\n"),
        )

    def test_mergers(self):
        self.check(
            errors.InvalidMerger, (mergers.merged, THREE, "ann", "ann", "new"),
            (mergers.merged, THREE, "ann", "bob", "cid"), (mergers.remedy, THREE, "ann", "ann", "new", "eve"),
            (mergers.remedy, THREE, "ann", "bob", "new", "new"), (mergers.remedy, THREE, "ann", "bob", "new", "ann"),
            (mergers.remedy, THREE, "ann", "bob", "new", "bob"), (mergers.cost_cut, THREE, "ann", "bob", "cid"),
            (mergers.cost_cut, THREE, "bob", "bob", "bob"),
        )

    def test_texts(self):
        self.check(
            errors.InvalidLine, (notation.parse_ratio, ""), (notation.parse_ratio, "2/2"),
            (notation.parse_market, "x\n"), (notation.parse_market, TEA[:-1]), (session.Session, TEA + TEA),
            (session.Session, "\n"),
        )

    def test_transcripts(self):
        self.check(
            errors.InvalidCommand, (session.replay, ""), (session.replay, "session\n"), (session.replay, TEA),
            (session.replay, "session\n= x\n"), (session.replay, "session\n= product tea ann 0 2 0\n"),
            (session.replay, "session\n= product tea ann 12 2 0\n= rival oat tea 1\n"),
        )

    def test_commands_tell_the_same_classes(self):
        led = session.Session("product oat ann 10 2 1\nproduct rye bob 10 2 1\nrival oat rye 1\n")
        for command, name in (
            ("x", "InvalidCommand"), ("back", "InvalidCommand"), ("cost oat -1", "InvalidMarket"),
            ("drop zoo", "UnknownName"), ("rival oat rye 1", "DuplicateName"), ("merge ann ann new", "InvalidMerger"),
        ):
            self.assertEqual(led.run(command), [f"error {name}"])


class ArgumentsAndLists(unittest.TestCase):
    def calls(self):
        """Calls that return a list, each with arguments of its own."""
        at = [(4, 1), (9, 2)]
        rows = [[(2, 1), (1, 1)], [(1, 1), (3, 1)]]
        led = session.Session("product oat ann 10 2 1\nproduct rye bob 10 2 1\nrival oat rye 1\n")
        return [
            (matrix.product, rows, at), (matrix.solve, rows, at), (PAIR.names,), (PAIR.owners,), (PAIR.owned, "ann"),
            (PAIR.rivalries,), (PAIR.demands, at), (prices.equilibrium, PAIR),
            (mergers.remedy, PAIR, "ann", "bob", "new", "eve"), (mergers.alone, PAIR, ["rye", "oat"]),
            (mergers.smallest_market, PAIR, "rye", (1, 20)), (led.run, "market"), (led.run, "x"), (led.run, "prices"),
        ]

    def test_a_list_that_is_returned_is_a_new_one(self):
        for call, *arguments in self.calls():
            with self.subTest(call=call.__name__):
                found = call(*arguments)
                self.assertIs(type(found), list)
                kept = copy.deepcopy(found)
                found.clear()
                self.assertEqual(call(*arguments), kept)
                self.assertFalse(any(found is argument for argument in arguments))

    def test_arguments_stay_as_they_are(self):
        at = [(4, 1), (9, 2)]
        others = [(5, 1), (4, 1)]
        before = helpers.looks(PAIR)
        for call, *arguments in [
            *self.calls(), (prices.judge, PAIR, at), (prices.profit, PAIR, "ann", at),
            (prices.buyers_loss, PAIR, at, others), (market.Market, list(THREE.products), [("oat", "rye", (1, 1))]),
            (PAIR.with_costs, {"oat": (2, 1)}), (PAIR.with_owners, {"oat": "bob"}),
        ]:
            kept = [value if isinstance(value, market.Market) else copy.deepcopy(value) for value in arguments]
            call(*arguments)
            self.assertEqual(arguments, kept)
            self.assertEqual(helpers.looks(PAIR), before)
            self.assertEqual(PAIR.products, [item("oat", "ann", 10, 2, 1), item("rye", "bob", 10, 2, 1)])


class Examples(unittest.TestCase):
    """Those of the interface."""

    def test_they_answer_as_written(self):
        self.assertEqual(ratio.sub(ratio.ratio(1, 2), ratio.ratio(2, 3)), (-1, 6))
        self.assertEqual(ratio.over(ratio.ratio(3), ratio.ratio(-6, 5)), (-5, 2))
        self.assertEqual(
            matrix.solve([[(0, 1), (2, 1)], [(1, 1), (1, 3)]], [(3, 1), (1, 1)]), [(1, 2), (3, 2)])
        rye = ("rye", "ann", (10, 1), (2, 1), (1, 1))
        oat = ("oat", "bob", (10, 1), (2, 1), (1, 1))
        self.assertEqual(prices.equilibrium(market.Market([rye, oat], [("oat", "rye", (1, 1))])), [(4, 1), (4, 1)])
        self.assertEqual(session.Session("product tea ann 12 2 0\n").run("prices"), ["tea 3"])


if __name__ == "__main__":
    unittest.main()

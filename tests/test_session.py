"""Sessions and their commands: points 7.1 to 7.4."""

import unittest

import helpers
from helpers import raises
from rivalprices.errors import InvalidLine, InvalidMarket, UnknownName
from rivalprices.market import Market
from rivalprices.notation import format_market
from rivalprices.session import Session

TEXT = (
    "product oat bob 10 2 1\n"
    "product rye ann 10 2 1\n"
    "rival oat rye 1\n"
)
LINES = TEXT.split("\n")[:-1]
QUESTIONS = {
    "market": LINES,
    "prices": ["oat 4", "rye 4"],
    "demands": ["oat 6", "rye 6"],
    "profits": ["ann 18", "bob 18"],
    "lively": ["yes"],
    "merger ann bob ann": ["oat 4 11/2", "rye 4 11/2", "loss 63/4"],
    "merger bob ann new": ["oat 4 11/2", "rye 4 11/2", "loss 63/4"],
    "sell ann bob ann cid": ["just oat"],
    "cut ann bob new": ["none"],
    "smallest rye 1/20": ["just oat rye"],
    "smallest rye 0": ["just rye"],
    "smallest rye 1": ["none"],
}
NO_COMMANDS = (
    "", " ", "x", "Market", "market ", " market", "market x", "market  x", "prices 1", "demands oat", "profits ann",
    "lively yes", "back 1", "back back", "backs", "quit", "> market", "= " + LINES[0], "market\t", "market\n",
    "product", "product tea", "product tea ann 1 1", "product tea ann 1 1 0 0", "product Tea ann 1 1 0",
    "product tea Ann 1 1 0", "product tea ann 01 1 0", "product tea ann 1 2/2 0", "product tea ann 1 1 -0",
    "product tea ann 1 1 x", "product  tea ann 1 1 0", "product tea ann 1 1 0 ", "product abcdefghijklm ann 1 1 0",
    "product tea ann 1000000000000000000 1 0", "rival", "rival oat rye", "rival oat rye 1 1", "rival oat rye 2/4",
    "rival oat Rye 1", "rival oat rye one", "drop", "drop oat rye", "drop OAT", "drop 1", "drop oat ", "owner",
    "owner oat", "owner oat ann bob", "owner oat Ann", "owner oat 1", "cost", "cost oat", "cost oat 1 1",
    "cost oat ann", "cost oat 1/0", "cost oat 0/1", "cost 1 oat", "merge", "merge ann bob", "merge ann bob new more",
    "merge ann bob New", "merge ann bob 1", "merger ann bob", "merger ann bob a b", "merger ann bob x1",
    "sell ann bob ann", "sell ann bob ann cid dan", "sell ann bob ann Cid", "cut ann bob", "cut ann bob new more",
    "cut ann bob N", "smallest", "smallest oat", "smallest oat 1 1", "smallest oat x", "smallest Oat 1",
    "smallest oat 10/5", "cost x 01", "drop x y", "smallest x 01", "owner x Y", "merge x y Z",
)


class Cases(unittest.TestCase):
    def setUp(self):
        self.session = Session(TEXT)

    def answers(self, command, *lines):
        with self.subTest(command=command):
            found = self.session.run(command)
            self.assertIs(type(found), list)
            self.assertEqual(found, list(lines))

    def refused(self, name, command):
        """Checks the answer to a command that raises an error, and that it changes nothing."""
        market = self.session.market()
        before = helpers.looks(market)
        self.answers(command, f"error {name}")
        self.assertEqual(helpers.looks(self.session.market()), before)

    def holds(self, *lines):
        """Checks the text of the market as it is."""
        self.assertEqual(format_market(self.session.market()), "".join(line + "\n" for line in lines))
        self.answers("market", *lines)


class Beginning(Cases):
    def test_the_example(self):
        self.assertEqual(Session("product tea ann 12 2 0\n").run("prices"), ["tea 3"])

    def test_the_market_of_the_text(self):
        self.assertIsInstance(self.session.market(), Market)
        self.holds(*LINES)

    def test_texts_that_write_no_market(self):
        raises(self, InvalidMarket, Session, "")
        raises(self, InvalidMarket, Session, "product tea ann 0 2 0\n")
        raises(self, UnknownName, Session, "product tea ann 12 2 0\nrival oat tea 1\n")
        self.assertEqual(raises(self, InvalidLine, Session, "product tea ann 12 2 0").line, 1)
        self.assertEqual(raises(self, InvalidLine, Session, TEXT + "x\n").line, 4)
        self.assertEqual(raises(self, InvalidLine, Session, TEXT + "x").line, 4)

    def test_sessions_do_not_share_anything(self):
        other = Session(TEXT)
        self.answers("drop oat", "ok")
        self.assertEqual(other.run("market"), LINES)
        self.assertEqual(other.run("back"), ["error InvalidCommand"])


class Changes(Cases):
    def test_product(self):
        self.answers("product ale cid 1/2 3 0", "ok")
        self.holds("product ale cid 1/2 3 0", *LINES)
        self.answers("product zoo ann 1 1 7/2", "ok")
        self.holds("product ale cid 1/2 3 0", *LINES[:2], "product zoo ann 1 1 7/2", LINES[2])

    def test_product_refused(self):
        self.refused("DuplicateName", "product oat cid 1 1 0")
        self.refused("DuplicateName", "product rye ann 0 1 0")
        for ratios in ("0 1 0", "-1 1 0", "1 0 0", "1 -1 0", "1 1 -1"):
            self.refused("InvalidMarket", f"product ale cid {ratios}")

    def test_product_beyond_six(self):
        for name in ("a", "b", "c", "d"):
            self.answers(f"product {name} cid 1 1 0", "ok")
        self.refused("InvalidMarket", "product e cid 1 1 0")
        # Too many products are told ahead of a name that is there.
        self.refused("InvalidMarket", "product a cid 1 1 0")

    def test_rival(self):
        self.answers("product ale cid 10 2 1", "ok")
        self.answers("rival oat ale 1/2", "ok")
        self.answers("rival ale rye 1/3", "ok")
        self.holds("product ale cid 10 2 1", *LINES[:2], "rival ale oat 1/2", "rival ale rye 1/3", LINES[2])

    def test_rival_refused(self):
        self.refused("DuplicateName", "rival oat rye 1/2")
        self.refused("DuplicateName", "rival rye oat 5")
        self.refused("InvalidMarket", "rival oat oat 1")
        self.refused("InvalidMarket", "rival oat rye 0")
        self.refused("InvalidMarket", "rival oat rye -1")
        for pair in ("oat ale", "ale oat", "ale ale", "ann bob", "oat ann"):
            for cross in ("1", "0", "-1"):
                self.refused("UnknownName", f"rival {pair} {cross}")
        self.answers("product ale cid 10 2 1", "ok")
        self.refused("InvalidMarket", "rival ale oat 1")
        self.refused("InvalidMarket", "rival oat ale 2")

    def test_drop(self):
        self.answers("product ale cid 10 2 1", "ok")
        self.answers("rival ale oat 1/2", "ok")
        self.answers("rival ale rye 1/2", "ok")
        self.answers("drop oat", "ok")
        self.holds("product ale cid 10 2 1", LINES[1], "rival ale rye 1/2")
        self.answers("drop ale", "ok")
        self.holds(LINES[1])
        self.refused("InvalidMarket", "drop rye")
        for name in ("oat", "ale", "ann", "x"):
            self.refused("UnknownName", f"drop {name}")

    def test_drop_of_an_unknown_product(self):
        for name in ("ale", "ann", "bob", "x"):
            self.refused("UnknownName", f"drop {name}")

    def test_owner(self):
        self.answers("owner oat ann", "ok")
        self.holds("product oat ann 10 2 1", *LINES[1:])
        self.answers("owner rye new", "ok")
        self.holds("product oat ann 10 2 1", "product rye new 10 2 1", LINES[2])
        for name in ("ale", "ann", "new"):
            self.refused("UnknownName", f"owner {name} ann")

    def test_cost(self):
        self.answers("cost oat 7/2", "ok")
        self.holds("product oat bob 10 2 7/2", *LINES[1:])
        self.answers("cost oat 0", "ok")
        self.holds("product oat bob 10 2 0", *LINES[1:])
        self.refused("InvalidMarket", "cost oat -1")
        for name in ("ale", "ann"):
            self.refused("UnknownName", f"cost {name} 1")
            self.refused("UnknownName", f"cost {name} -1")

    def test_merge(self):
        for name in ("ann", "bob", "new"):
            for pair in ("ann bob", "bob ann"):
                self.answers(f"merge {pair} {name}", "ok")
                self.holds(f"product oat {name} 10 2 1", f"product rye {name} 10 2 1", LINES[2])
                self.answers("back", "ok")

    def test_merge_refused(self):
        self.answers("product ale cid 10 2 1", "ok")
        self.refused("UnknownName", "merge ann dan new")
        self.refused("UnknownName", "merge dan ann new")
        self.refused("UnknownName", "merge dan dan dan")
        self.refused("UnknownName", "merge dan ann cid")
        self.refused("InvalidMerger", "merge ann ann new")
        self.refused("InvalidMerger", "merge ann bob cid")


class Back(Cases):
    def test_nothing_to_take_back(self):
        self.refused("InvalidCommand", "back")
        self.refused("InvalidCommand", "back")

    def test_once(self):
        for command in ("product ale cid 1 1 0", "drop oat", "owner oat cid", "cost oat 5", "merge ann bob cid"):
            self.answers(command, "ok")
            self.assertNotEqual(format_market(self.session.market()), TEXT)
            self.answers("back", "ok")
            self.holds(*LINES)
            self.refused("InvalidCommand", "back")

    def test_a_rivalry(self):
        self.answers("product ale cid 10 2 1", "ok")
        self.answers("rival ale oat 1/2", "ok")
        self.answers("back", "ok")
        self.holds("product ale cid 10 2 1", *LINES)

    def test_often(self):
        commands = ["product ale cid 10 2 1", "rival ale oat 1/2", "cost oat 5", "owner rye cid", "merge bob cid bob",
                    "drop oat", "cost ale 0"]
        texts = []
        for command in commands:
            texts.append(format_market(self.session.market()))
            self.answers(command, "ok")
        for text in texts[::-1]:
            self.answers("back", "ok")
            self.assertEqual(format_market(self.session.market()), text)
        self.holds(*LINES)
        self.refused("InvalidCommand", "back")

    def test_between(self):
        self.answers("cost oat 2", "ok")
        self.answers("cost oat 3", "ok")
        self.answers("back", "ok")
        self.answers("cost rye 5", "ok")
        self.holds("product oat bob 10 2 2", "product rye ann 10 2 5", LINES[2])
        self.answers("back", "ok")
        self.answers("back", "ok")
        self.holds(*LINES)
        self.refused("InvalidCommand", "back")
        self.answers("cost oat 9", "ok")
        self.answers("back", "ok")
        self.holds(*LINES)

    def test_what_changes_nothing_is_not_taken_back(self):
        self.answers("cost oat 2", "ok")
        for command in ("cost oat -1", "drop x", "merge ann ann x", "nothing", "market", "prices",
                        "merger ann bob ann", "sell ann bob ann cid"):
            self.session.run(command)
        self.answers("back", "ok")
        self.holds(*LINES)
        self.refused("InvalidCommand", "back")

    def test_a_command_that_leads_to_the_same_market_counts(self):
        self.answers("cost oat 2", "ok")
        self.answers("owner oat bob", "ok")
        self.answers("cost oat 2", "ok")
        self.answers("back", "ok")
        self.answers("back", "ok")
        self.holds("product oat bob 10 2 2", *LINES[1:])
        self.answers("back", "ok")
        self.holds(*LINES)


class Questions(Cases):
    def test_each_one(self):
        before = helpers.looks(self.session.market())
        for _ in range(2):
            for command, lines in QUESTIONS.items():
                self.answers(command, *lines)
                self.assertEqual(helpers.looks(self.session.market()), before)

    def test_about_the_market_as_it_is(self):
        self.answers("cost oat 3", "ok")
        self.answers("prices", "oat 76/15", "rye 64/15")
        self.answers("demands", "oat 62/15", "rye 98/15")
        self.answers("profits", "ann 4802/225", "bob 1922/225")
        self.answers("owner rye bob", "ok")
        self.answers("prices", "oat 13/2", "rye 11/2")
        self.answers("demands", "oat 5/2", "rye 11/2")
        self.answers("profits", "bob 67/2")
        self.answers("drop rye", "ok")
        self.answers("prices", "oat 4")
        self.answers("market", "product oat bob 10 2 3")

    def test_figures_below_0(self):
        self.session = Session("product tea ann 1 1 9\n")
        self.answers("prices", "tea 5")
        self.answers("demands", "tea -4")
        self.answers("profits", "ann 16")
        self.answers("lively", "no")

    def test_lively_at_0(self):
        self.session = Session("product tea ann 9 1 9\n")
        self.answers("demands", "tea 0")
        self.answers("lively", "no")
        self.answers("cost tea 899999999/100000000", "ok")
        self.answers("lively", "yes")

    def test_profits_by_owners_and_not_by_products(self):
        self.session = Session("product ale zoe 10 1 0\nproduct bun ann 4 1 0\nproduct cod zoe 2 1 0\n")
        self.answers("profits", "ann 4", "zoe 26")

    def test_a_merger_by_which_prices_fall(self):
        # The demands are below 0, and one owner of both has less of that at lower prices.
        self.session = Session("product ale ann 1 2 9\nproduct bun bob 1 2 9\nrival ale bun 1\n")
        self.answers("prices", "ale 19/3", "bun 19/3")
        self.answers("merger ann bob ann", "ale 19/3 5", "bun 19/3 5", "loss 112/9")

    def test_sell(self):
        self.session = Session("product ale ann 9 3 1\nproduct bun bob 9 3 1\nproduct cod cid 9 3 1\nrival ale bun 1\n")
        self.answers("sell ann cid new bob", "just")
        self.answers("sell ann bob new cid", "just ale")
        self.answers("sell ann bob new eve", "just ale")
        self.answers("rival ale cod 1", "ok")
        self.answers("sell ann bob new cid", "just bun")
        self.answers("rival bun cod 1", "ok")
        self.answers("sell ann bob new cid", "none")

    def test_cut(self):
        for cost, line in (("5", "1/3"), ("5/2", "1"), ("12/5", "none"), ("10", "0")):
            self.session = Session(TEXT.replace("2 1\n", f"2 {cost}\n"))
            self.answers("cut ann bob ann", line)

    def test_figures_of_many_digits(self):
        long = 10 ** 18 - 1
        self.session = Session(
            f"product a x {long} 7 0\nproduct b y 1/{long} {long} 1/{long - 1}\nrival a b 1/{long - 4}\n")
        for command in ("prices", "demands", "profits", "merger x y x"):
            for line in self.session.run(command):
                self.assertGreater(len(line), 40)

    def test_refused(self):
        self.answers("product ale cid 10 2 1", "ok")
        for command in ("merger", "cut", "sell"):
            buyer = " eve" if command == "sell" else ""
            self.refused("UnknownName", f"{command} ann dan new{buyer}")
            self.refused("UnknownName", f"{command} dan ann new{buyer}")
            self.refused("UnknownName", f"{command} dan dan cid{buyer}")
            self.refused("InvalidMerger", f"{command} ann ann new{buyer}")
            self.refused("InvalidMerger", f"{command} ann bob cid{buyer}")
        for buyer in ("ann", "bob", "new"):
            self.refused("InvalidMerger", f"sell ann bob new {buyer}")
        self.refused("UnknownName", "smallest x 0")
        self.refused("UnknownName", "smallest ann 1/20")


class NoCommands(Cases):
    def test_changed_words(self):
        for command in NO_COMMANDS:
            self.refused("InvalidCommand", command)
        self.refused("InvalidCommand", "back")
        self.holds(*LINES)

    def test_each_command_with_a_word_more_or_less(self):
        commands = [*QUESTIONS, "product ale cid 1 1 0", "rival oat rye 1", "drop oat", "owner oat cid", "cost oat 5",
                    "merge ann bob cid", "back"]
        for command in commands:
            self.refused("InvalidCommand", command + " ale")
            self.refused("InvalidCommand", command + " 1")
            self.refused("InvalidCommand", command + " ")
            self.refused("InvalidCommand", " " + command)
            self.refused("InvalidCommand", command.upper())
            if " " in command:
                self.refused("InvalidCommand", command.rpartition(" ")[0])
                self.refused("InvalidCommand", command.replace(" ", "  ", 1))


class ListsAreNew(Cases):
    def test_a_change_of_an_answer_changes_nothing(self):
        for command, lines in {**QUESTIONS, "cost oat 1": ["ok"], "nothing": ["error InvalidCommand"]}.items():
            found = self.session.run(command)
            transcript = self.session.transcript()
            found.append("more")
            found.reverse()
            self.assertEqual(self.session.transcript(), transcript)
            self.answers(command, *lines)


if __name__ == "__main__":
    unittest.main()

"""Transcripts of sessions, and their replays: point 7.5."""

import unittest

import helpers
from helpers import raises
from rivalprices.errors import InvalidCommand
from rivalprices.notation import format_market
from rivalprices.session import Session, replay

TEXT = "product oat bob 10 2 1\nproduct rye ann 10 2 1\nrival oat rye 1\n"
HEAD = "session\n= product oat bob 10 2 1\n= product rye ann 10 2 1\n= rival oat rye 1\n"
WHOLE = (
    HEAD
    + "> prices\noat 4\nrye 4\n"
    + "> cost oat 3\nok\n"
    + "> lively\nyes\n"
    + "> \nerror InvalidCommand\n"
    + "> > market\nerror InvalidCommand\n"
    + "> drop x\nerror UnknownName\n"
    + "> merger ann bob new\noat 76/15 13/2\nrye 64/15 11/2\nloss 10957/900\n"
    + "> back\nok\n"
    + "> sell ann bob new cid\njust oat\n"
    + "> cut ann bob new\nnone\n"
)
COMMANDS = [
    "prices", "cost oat 3", "lively", "", "> market", "drop x", "merger ann bob new", "back", "sell ann bob new cid",
    "cut ann bob new",
]


class Transcripts(unittest.TestCase):
    def test_at_the_beginning(self):
        self.assertEqual(Session(TEXT).transcript(), HEAD)
        self.assertEqual(
            Session("product tea ann 12 2 0\n").transcript(), "session\n= product tea ann 12 2 0\n")

    def test_behind_each_command(self):
        session = Session(TEXT)
        expected = HEAD
        for command in COMMANDS:
            expected += "".join(line + "\n" for line in ["> " + command, *session.run(command)])
            self.assertEqual(session.transcript(), expected)
        self.assertEqual(expected, WHOLE)

    def test_the_text_stays_that_of_the_beginning(self):
        session = Session(TEXT)
        session.run("drop oat")
        session.run("market")
        self.assertEqual(session.transcript(), HEAD + "> drop oat\nok\n> market\nproduct rye ann 10 2 1\n")

    def test_reading_it_changes_nothing(self):
        session = Session(TEXT)
        self.assertEqual(session.transcript(), session.transcript())
        self.assertEqual(session.run("market"), TEXT.split("\n")[:-1])


class Replays(unittest.TestCase):
    def differs(self, text, line):
        with self.subTest(text=text):
            found = replay(text)
            self.assertIs(type(found), tuple)
            self.assertEqual(len(found), 2)
            self.assertIsInstance(found[0], Session)
            self.assertEqual(found[1], line)
            return found[0]

    def test_the_same(self):
        self.differs(HEAD, None)
        session = self.differs(WHOLE, None)
        self.assertEqual(session.transcript(), WHOLE)
        self.assertEqual(format_market(session.market()), TEXT)

    def test_the_session_goes_on(self):
        session = self.differs(HEAD + "> cost oat 3\nok\n", None)
        self.assertEqual(session.run("prices"), ["oat 76/15", "rye 64/15"])
        self.assertEqual(session.run("back"), ["ok"])
        self.assertEqual(session.run("back"), ["error InvalidCommand"])
        self.assertEqual(replay(session.transcript())[1], None)

    def test_of_all_markets(self):
        for market in helpers.some_markets():
            session = Session(format_market(market))
            names = market.names()
            owners = market.owners()
            for command in ("market", "prices", "demands", "profits", "lively", f"smallest {names[0]} 1/20",
                            f"merger {owners[0]} {owners[-1]} new", f"sell {owners[0]} {owners[-1]} new eve",
                            f"cut {owners[0]} {owners[-1]} new", f"drop {names[-1]}", f"owner {names[0]} eve",
                            f"merge {owners[0]} {owners[-1]} new", "profits", "back", "back", "back", "back"):
                session.run(command)
            again = self.differs(session.transcript(), None)
            self.assertEqual(again.transcript(), session.transcript())
            self.assertEqual(helpers.looks(again.market()), helpers.looks(session.market()))

    def test_a_changed_line(self):
        lines = WHOLE.split("\n")[:-1]
        for at in range(4, len(lines)):
            if not lines[at].startswith("> "):
                for other in ("", "x", lines[at] + " ", " " + lines[at], lines[at].upper() + "/", "= " + lines[at]):
                    changed = [*lines[:at], other, *lines[at + 1:]]
                    self.differs("\n".join(changed) + "\n", at + 1)

    def test_a_changed_command(self):
        # The commands are read as they are told, so what differs is the answer.
        session = self.differs(WHOLE.replace("> cost oat 3", "> cost oat 4"), 19)
        self.assertIn("> cost oat 4\nok\n", session.transcript())
        self.differs(WHOLE.replace("> cost oat 3", "> cost oat 03"), 9)
        self.differs(WHOLE.replace("> prices", "> demands"), 6)

    def test_a_changed_line_of_the_text(self):
        self.differs(WHOLE.replace("= product rye ann 10 2 1", "= product rye ann 10 3 1"), 6)
        self.differs(WHOLE.replace("= product rye ann 10 2 1", "= product rye cid 10 2 1"), 19)
        self.differs(HEAD.replace("10 2 1", "10 3 1"), None)

    def test_a_line_that_is_missing(self):
        lines = WHOLE.split("\n")[:-1]
        for at in range(4, len(lines)):
            if not lines[at].startswith("> "):
                self.differs("\n".join([*lines[:at], *lines[at + 1:]]) + "\n", at + 1)

    def test_a_line_more(self):
        lines = WHOLE.split("\n")[:-1]
        for at in range(4, len(lines) + 1):
            for more in ("", "x", "session", "ok and more", ">", ">x", " > prices", "= x"):
                if at > 4 or more != "= x":
                    self.differs("\n".join([*lines[:at], more, *lines[at:]]) + "\n", at + 1)

    def test_the_first_line_that_differs_counts(self):
        self.differs(WHOLE.replace("rye 4\n", "rye 5\n").replace("yes", "no").replace("none", "1"), 7)

    def test_an_end_that_is_missing(self):
        self.differs(HEAD + "> prices\n", 6)
        self.differs(HEAD + "> prices\noat 4\n", 7)
        self.differs(HEAD + "> prices\noat 4\nrye 4\n", None)
        self.differs(HEAD + "> prices\n> lively\nyes\n", 6)

    def test_an_end_that_is_too_much(self):
        self.differs(HEAD + "x\n", 5)
        self.differs(HEAD + "x", 5)
        self.differs(HEAD + "\n", 5)
        self.differs(HEAD + "\n\n", 5)
        self.differs(HEAD + " ", 5)
        self.differs(WHOLE + "\n", len(WHOLE.split("\n")))
        self.differs(WHOLE + "ok\n", len(WHOLE.split("\n")))

    def test_a_newline_alone(self):
        self.differs(HEAD[:-1], 4)
        self.differs(WHOLE[:-1], len(WHOLE.split("\n")) - 1)
        self.differs(HEAD + "> cost oat 3\nok", 6)
        self.differs("session\n= product tea ann 12 2 0", 2)

    def test_what_is_read_of_a_last_line_without_a_newline(self):
        session = self.differs(HEAD + "> prices", 5)
        self.assertEqual(session.transcript(), HEAD + "> prices\noat 4\nrye 4\n")
        session = self.differs("session\n= product tea ann 12 2 0", 2)
        self.assertEqual(session.run("prices"), ["tea 3"])
        session = self.differs(HEAD + "> cost oat 3\nok\n> drop rye", 7)
        self.assertEqual(session.run("market"), ["product oat bob 10 2 3"])

    def test_all_lines_with_a_command_are_read(self):
        # Also those that stand where an answer should be, or behind lines that are none of a session's.
        session = self.differs(HEAD + "x\n> cost oat 3\n= y\n> cost rye 3\n\n> prices\n", 5)
        self.assertEqual(
            session.transcript(), HEAD + "> cost oat 3\nok\n> cost rye 3\nok\n> prices\noat 16/3\nrye 16/3\n")

    def test_only_the_lines_behind_the_first_one_are_the_text(self):
        self.differs(HEAD + "> market\n= product zoo ann 1 1 0\n", 6)
        self.differs("session\n= product oat bob 10 2 1\nx\n= product rye ann 10 2 1\n", 3)

    def test_signs_are_read_whole(self):
        session = self.differs(HEAD + ">  prices\nerror InvalidCommand\n", None)
        self.assertEqual(session.transcript(), HEAD + ">  prices\nerror InvalidCommand\n")
        self.differs(HEAD + ">prices\noat 4\nrye 4\n", 5)
        self.differs(HEAD + " > prices\noat 4\nrye 4\n", 5)

    def test_other_ends_of_lines(self):
        self.differs(HEAD + "> lively\nyes\r\n", 6)
        self.differs(HEAD + "> lively\r\nyes\n", 6)
        self.differs(HEAD + "> lively\u2028x\nerror InvalidCommand\n", None)
        self.differs(HEAD + "> lively\x0bx\nerror InvalidCommand\n", None)
        self.differs(HEAD + "> lively\r\nerror InvalidCommand\n", None)


class NoTranscripts(unittest.TestCase):
    def refused(self, text):
        with self.subTest(text=text):
            raises(self, InvalidCommand, replay, text)

    def test_another_first_line(self):
        rest = HEAD.partition("\n")[2]
        for first in ("", "\n", "x\n", "Session\n", "session \n", " session\n", "session\r\n", "sessions\n",
                      "> session\n", "= session\n", "session"):
            self.refused(first + rest)
        for text in ("", "\n", "x", "sessio", "\nsession\n", "> prices\n", TEXT, WHOLE[1:], "\n" + WHOLE):
            self.refused(text)

    def test_no_text(self):
        for text in ("session", "session\n", "session\n\n", "session\n> prices\n", "session\nx\n" + HEAD[8:],
                     "session\n> prices\n" + HEAD[8:], "session\n" + HEAD, "session\n=\n", "session\n= \n"):
            self.refused(text)

    def test_a_text_that_writes_no_market(self):
        for lines in ("= x", "= product tea ann 12 2", "= product tea ann 0 2 0", "= product tea ann 12 2 0\n= ",
                      "=  product tea ann 12 2 0", "= = product tea ann 12 2 0", "= rival a b 1",
                      "= product tea ann 12 2 0\n= rival oat tea 1", "= product tea ann 12 2 0\n= x",
                      "= product tea ann 12 2 0\n= product oat ann 12 2 0",
                      "= product tea ann 12 2 0\n= product tea bob 1 1 0"):
            self.refused(f"session\n{lines}\n")
            self.refused(f"session\n{lines}")
            self.refused(f"session\n{lines}\n> prices\ntea 3\n")


if __name__ == "__main__":
    unittest.main()

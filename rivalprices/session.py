"""Sessions: a market that is led by commands, and transcripts of that."""

from rivalprices.commands import answer, changed, is_change, read_command
from rivalprices.errors import DuplicateName, InvalidCommand, InvalidMarket, InvalidMerger, PriceError, UnknownName
from rivalprices.notation import parse_market

HEAD = "session"
TEXT_SIGN = "= "
COMMAND_SIGN = "> "


class Session:
    """A market that is led by commands."""

    def __init__(self, text):
        # The market as it is stands last, behind those that `back` brings again.
        self._markets = [parse_market(text)]
        self._lines = [HEAD, *[TEXT_SIGN + line for line in text.split("\n")[:-1]]]

    def run(self, command):
        """Carries out a command; the lines of its answer."""
        lines = self._answer(command)
        self._lines.append(COMMAND_SIGN + command)
        self._lines.extend(lines)
        return lines

    def market(self):
        """The market as it is."""
        return self._markets[-1]

    def transcript(self):
        """All commands so far, with their answers."""
        return "".join([line + "\n" for line in self._lines])

    def _answer(self, command):
        try:
            return self._carry_out(command)
        except InvalidCommand:
            return ["error InvalidCommand"]
        except InvalidMarket:
            return ["error InvalidMarket"]
        except UnknownName:
            return ["error UnknownName"]
        except DuplicateName:
            return ["error DuplicateName"]
        except InvalidMerger:
            return ["error InvalidMerger"]

    def _carry_out(self, command):
        word, values = read_command(command)
        if word == "back":
            return self._take_back()
        if is_change(word):
            self._markets.append(changed(self.market(), word, values))
            return ["ok"]
        return answer(self.market(), word, values)

    def _take_back(self):
        if len(self._markets) == 1:
            raise InvalidCommand("there is no command to take back")
        self._markets.pop()
        return ["ok"]


def _begun(lines):
    """The session that begins with the text at the head of these lines."""
    told = []
    for line in lines:
        if not line.startswith(TEXT_SIGN):
            break
        told.append(line.removeprefix(TEXT_SIGN) + "\n")
    try:
        return Session("".join(told))
    except PriceError:
        raise InvalidCommand("the transcript begins with no text of a market")


def _pieces(text):
    """The lines of a text with their newlines, and what stands behind the last one, which may be nothing."""
    *lines, rest = text.split("\n")
    return [*[line + "\n" for line in lines], rest]


def _first_difference(text, other):
    """The number of the first line at which two texts differ, or None."""
    # Only the last piece has no newline, so a text with fewer pieces differs there at the latest.
    for number, (piece, twin) in enumerate(zip(_pieces(text), _pieces(other)), start=1):
        if piece != twin:
            return number
    return None


def replay(text):
    """The new session that a transcript leads, and the first line at which its own transcript differs."""
    # What stands behind the last newline is empty, or a line that is read as if it had one.
    lines = text.split("\n")
    if lines[0] != HEAD:
        raise InvalidCommand("the transcript does not begin with its first line")
    session = _begun(lines[1:])
    for line in lines:
        if line.startswith(COMMAND_SIGN):
            session.run(line.removeprefix(COMMAND_SIGN))
    return (session, _first_difference(text, session.transcript()))

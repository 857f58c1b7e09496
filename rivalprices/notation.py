"""Texts of ratios and markets."""

from rivalprices.errors import InvalidLine
from rivalprices.market import Market, is_name
from rivalprices.ratio import ratio

DIGITS = "0123456789"
MOST_DIGITS = 18

# Python itself does not write numbers of some thousand digits, so they are written in pieces.
PIECE = 1000000000000000000
PIECE_DIGITS = 18

# The kinds of the words behind the first word of a line.
KINDS = {
    "product": ("name", "name", "ratio", "ratio", "ratio"),
    "rival": ("name", "name", "ratio"),
}


def _digits(number):
    """The digits of a number that is not below 0."""
    pieces = []
    while number >= PIECE:
        number, low = divmod(number, PIECE)
        pieces.append(str(low).zfill(PIECE_DIGITS))
    pieces.append(str(number))
    return "".join(pieces[::-1])


def format_ratio(value):
    """The text of a ratio."""
    n, d = value
    text = _digits(abs(n))
    if n < 0:
        text = "-" + text
    if d != 1:
        text = text + "/" + _digits(d)
    return text


def _read_number(text):
    """The number that digits write, or None if they are no digits or too many."""
    if not 1 <= len(text) <= MOST_DIGITS:
        return None
    if not all([digit in DIGITS for digit in text]):
        return None
    return int(text)


def read_ratio(text):
    """The ratio that a text writes, or None if it is not written as it must be."""
    top, bar, bottom = text.partition("/")
    n = _read_number(top.removeprefix("-"))
    d = _read_number(bottom) if bar else 1
    if n is None or d is None or d == 0:
        return None
    value = ratio(-n if top.startswith("-") else n, d)
    # A ratio has one text alone, so all that is needless or not in lowest terms shows here.
    return value if format_ratio(value) == text else None


def parse_ratio(text):
    """The ratio that a text writes."""
    value = read_ratio(text)
    if value is None:
        raise InvalidLine(1)
    return value


def _read_word(kind, word):
    if kind == "ratio":
        return read_ratio(word)
    return word if is_name(word) else None


def read_words(kinds, words):
    """What words of these kinds tell, or None if one is not written as it must be, missing or too much."""
    if len(words) != len(kinds):
        return None
    values = [_read_word(kind, word) for kind, word in zip(kinds, words)]
    return None if None in values else values


def market_lines(market):
    """The lines of the text of a market, without their newlines."""
    lines = []
    for name in market.names():
        _, owner, base, own, cost = market.product(name)
        lines.append(f"product {name} {owner} {format_ratio(base)} {format_ratio(own)} {format_ratio(cost)}")
    for one, other, cross in market.rivalries():
        lines.append(f"rival {one} {other} {format_ratio(cross)}")
    return lines


def format_market(market):
    """The text of a market."""
    return "".join([line + "\n" for line in market_lines(market)])


def _read_line(line):
    """The first word of a line and what the others tell, or None if it is no line of a product or a rivalry."""
    word, *rest = line.split(" ")
    if word not in KINDS:
        return None
    values = read_words(KINDS[word], rest)
    if values is None:
        return None
    # A rivalry is written with the lesser name ahead of the other one.
    if word == "rival" and values[0] >= values[1]:
        return None
    return (word, values)


def _place(word, values):
    """What the lines of a text are sorted by: products come ahead of rivalries, as their words do."""
    if word == "product":
        return (word, values[0])
    return (word, values[0], values[1])


def parse_market(text):
    """The market that a text writes."""
    lines = text.split("\n")
    if lines[-1] != "":
        raise InvalidLine(len(lines))
    told = {"product": [], "rival": []}
    last = ()
    for number, line in enumerate(lines[:-1], start=1):
        read = _read_line(line)
        if read is None:
            raise InvalidLine(number)
        word, values = read
        place = _place(word, values)
        if place <= last:
            raise InvalidLine(number)
        last = place
        told[word].append(tuple(values))
    return Market(told["product"], told["rival"])

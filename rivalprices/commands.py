"""The commands of a session: those that make the next market, and the questions about the market as it is."""

from rivalprices.errors import InvalidCommand, UnknownName
from rivalprices.market import Market
from rivalprices.mergers import cost_cut, merged, remedy, smallest_market
from rivalprices.notation import format_ratio, market_lines, read_words
from rivalprices.prices import buyers_loss, equilibrium, is_lively, profit

# The kinds of the words behind the first word of a command.
KINDS = {
    "product": ("name", "name", "ratio", "ratio", "ratio"),
    "rival": ("name", "name", "ratio"),
    "drop": ("name",),
    "owner": ("name", "name"),
    "cost": ("name", "ratio"),
    "merge": ("name", "name", "name"),
    "back": (),
    "market": (),
    "prices": (),
    "demands": (),
    "profits": (),
    "lively": (),
    "merger": ("name", "name", "name"),
    "sell": ("name", "name", "name", "name"),
    "cut": ("name", "name", "name"),
    "smallest": ("name", "ratio"),
}


def read_command(command):
    """The first word of a command and what the others tell."""
    word, *rest = command.split(" ")
    if word not in KINDS:
        raise InvalidCommand(f"{word} is no command")
    values = read_words(KINDS[word], rest)
    if values is None:
        raise InvalidCommand(f"the words behind {word} are not as they must be")
    return (word, values)


def _products(market):
    return [market.product(name) for name in market.names()]


def _with_product(market, name, owner, base, own, cost):
    return Market([*_products(market), (name, owner, base, own, cost)], market.rivalries())


def _with_rivalry(market, one, other, cross):
    return Market(_products(market), [*market.rivalries(), (one, other, cross)])


def _without(market, name):
    """The market without a product and its rivalries."""
    if name not in market.names():
        raise UnknownName(f"{name} is no product")
    products = [market.product(told) for told in market.names() if told != name]
    rivalries = [(one, other, cross) for one, other, cross in market.rivalries() if name not in (one, other)]
    return Market(products, rivalries)


def _with_owner(market, name, owner):
    return market.with_owners({name: owner})


def _with_cost(market, name, cost):
    return market.with_costs({name: cost})


def _merge(market, owner, other, new):
    return merged(market, owner, other, new)


CHANGES = {
    "product": _with_product,
    "rival": _with_rivalry,
    "drop": _without,
    "owner": _with_owner,
    "cost": _with_cost,
    "merge": _merge,
}


def is_change(word):
    """Whether this is the first word of a command that makes the next market."""
    return word in CHANGES


def changed(market, word, values):
    """The next market by a command that was read."""
    change = CHANGES[word]
    return change(market, *values)


def _market(market):
    return market_lines(market)


def _by_name(names, figures):
    """A line for each name, with its figure."""
    return [f"{name} {format_ratio(figure)}" for name, figure in zip(names, figures)]


def _prices(market):
    return _by_name(market.names(), equilibrium(market))


def _demands(market):
    return _by_name(market.names(), market.demands(equilibrium(market)))


def _profits(market):
    prices = equilibrium(market)
    owners = market.owners()
    return _by_name(owners, [profit(market, owner, prices) for owner in owners])


def _lively(market):
    return ["yes" if is_lively(market) else "no"]


def _merger(market, owner, other, new):
    """The prices ahead of a merger and behind it, and what the buyers lose by it."""
    after = merged(market, owner, other, new)
    prices = equilibrium(market)
    later = equilibrium(after)
    lines = [
        f"{name} {format_ratio(price)} {format_ratio(late)}"
        for name, price, late in zip(market.names(), prices, later)
    ]
    loss = buyers_loss(market, prices, later)
    return [*lines, f"loss {format_ratio(loss)}"]


def _just(names):
    """The line of a list of names, or of none."""
    if names is None:
        return ["none"]
    return [" ".join(["just", *names])]


def _sell(market, owner, other, new, buyer):
    return _just(remedy(market, owner, other, new, buyer))


def _cut(market, owner, other, new):
    part = cost_cut(market, owner, other, new)
    return ["none" if part is None else format_ratio(part)]


def _smallest(market, name, rise):
    return _just(smallest_market(market, name, rise))


QUESTIONS = {
    "market": _market,
    "prices": _prices,
    "demands": _demands,
    "profits": _profits,
    "lively": _lively,
    "merger": _merger,
    "sell": _sell,
    "cut": _cut,
    "smallest": _smallest,
}


def answer(market, word, values):
    """The lines that answer a question that was read."""
    question = QUESTIONS[word]
    return question(market, *values)

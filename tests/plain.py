"""Slow and plain ways to work out what the program tells, for small mills."""

from itertools import product

from millshare.mills import Mill


def small_lists():
    """All lists of up to three stretches of one or two pieces, costs -2 to 2."""
    pairs = list(product((1, 2), range(-2, 3)))
    for length in range(4):
        for rows in product(pairs, repeat=length):
            costs = [cost for _, cost in rows]
            if costs == sorted(costs):
                yield list(rows)


def pieces(stretches):
    """The cost of each piece, one by one."""
    return [cost for many, cost in stretches for _ in range(many)]


def stretches_of(costs):
    """The stretches, put together, of pieces of these costs."""
    return [(costs.count(cost), cost) for cost in sorted(set(costs))]


def fields(mill):
    """All that a mill's fields say."""
    return mill.base, mill.stretches, mill.size


def told(mill):
    """All that a small mill tells, as plain values."""
    counts = range(mill.size + 1)
    prices = range(-4, 5)
    return (
        fields(mill),
        [mill.cost(many) for many in counts],
        [mill.piece(number) for number in counts[1:]],
        [(mill.by_price(price), mill.gain(price)) for price in prices],
        mill.prices(),
    )


def small_mills():
    """Pairs of a small mill and the costs of its pieces, one by one."""
    for rows in small_lists():
        yield Mill(len(rows) - 1, rows), pieces(rows)

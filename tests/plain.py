"""Slow and plain ways to work out what the program tells, for small mills."""

from itertools import product

from millshare.mills import Mill


def small_lists():
    """All lists of up to three stretches of one or two pieces, costs -2 to 2."""
    pairs = list(product((1, 2), range(-2, 3)))
    for length in range(4):
        for rows in product(pairs, repeat=length):
            costs = [cost for _, cost in rows]
            if costs == sorted(costs):
                yield list(rows)


def pieces(stretches):
    """The cost of each piece, one by one."""
    return [cost for many, cost in stretches for _ in range(many)]


def stretches_of(costs):
    """The stretches, put together, of pieces of these costs."""
    return [(costs.count(cost), cost) for cost in sorted(set(costs))]


def fields(mill):
    """All that a mill's fields say."""
    return mill.base, mill.stretches, mill.size


def told(mill):
    """All that a small mill tells, as plain values."""
    counts = range(mill.size + 1)
    prices = range(-4, 5)
    return (
        fields(mill),
        [mill.cost(many) for many in counts],
        [mill.piece(number) for number in counts[1:]],
        [(mill.by_price(price), mill.gain(price)) for price in prices],
        mill.prices(),
    )


def small_mills():
    """Pairs of a small mill and the costs of its pieces, one by one."""
    for rows in small_lists():
        yield Mill(len(rows) - 1, rows), pieces(rows)


def few_mills():
    """A few small mills of like and unlike costs, one of them without pieces."""
    lists = ([], [(1, 0)], [(2, 0)], [(1, -1), (1, 0)], [(1, 0), (2, 1)], [(2, 1), (1, 2)])
    return [Mill(3 * place - 4, rows) for place, rows in enumerate(lists)]


def few_lists():
    """Lists of one, two and three of the few mills, the same one twice, too."""
    for length in (1, 2, 3):
        for mills in product(few_mills(), repeat=length):
            yield list(mills)


def plain_cost(mills, numbers):
    """What shares cost, piece by piece."""
    made = [pieces(mill.stretches)[:number] for mill, number in zip(mills, numbers)]
    return sum(mill.base for mill in mills) + sum(map(sum, made))


def all_shares(mills):
    """All shares among the mills, with what they cost, by what they come to."""
    found = {}
    for numbers in product(*[range(mill.size + 1) for mill in mills]):
        row = (plain_cost(mills, numbers), list(numbers))
        found.setdefault(sum(numbers), []).append(row)
    return found


def plain_shares(rows):
    """Of shares with their costs, the cheapest; of several, the first mills make most."""
    least = min(cost for cost, _ in rows)
    return max(numbers for cost, numbers in rows if cost == least)

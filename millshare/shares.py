"""Shares: how many pieces each of several mills makes."""

from millshare.errors import NoCount, NoMill
from millshare.joins import joined


def shares(mills, many):
    """The cheapest shares; of several, those by which the first mills make most."""
    whole = joined(mills)
    if many == 0:
        return [0] * len(mills)
    price = whole.piece(many)
    # Each cheaper piece is made, and no dearer one: only pieces of just that
    # price are left to choose from.
    bounds = [mill.by_price(price) for mill in mills]
    left = many - sum([fewest for fewest, most in bounds])
    numbers = []
    for fewest, most in bounds:
        more = min(left, most - fewest)
        numbers.append(fewest + more)
        left -= more
    return numbers


def _check(mills, numbers):
    """Refuse what are no shares."""
    if not mills:
        raise NoMill("among no mills nothing is shared")
    if len(numbers) != len(mills):
        raise NoCount("shares are one number for each mill")
    for mill, number in zip(mills, numbers):
        if number < 0 or number > mill.size:
            raise NoCount("a share is from 0 to the mill's size")


def cost_of(mills, numbers):
    """What the mills cost by these shares, all bases counted."""
    _check(mills, numbers)
    return sum([mill.cost(number) for mill, number in zip(mills, numbers)])


def better(mills, numbers):
    """The places (giver, taker) of a move by which the shares cost less, or None."""
    _check(mills, numbers)
    rows = [(place, mills[place], number) for place, number in enumerate(numbers)]
    made = [(mill.piece(number), place) for place, mill, number in rows if number > 0]
    free = [(mill.piece(number + 1), place) for place, mill, number in rows if number < mill.size]
    if not made or not free:
        return None
    # Of several, max and min tell the first.
    dearest, giver = max(made, key=lambda pair: pair[0])
    cheapest, taker = min(free, key=lambda pair: pair[0])
    if dearest > cheapest:
        return giver, taker
    return None

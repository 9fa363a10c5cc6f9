"""Mills joined to one, and a part taken out of a mill."""

from millshare.errors import NoMill, NoPart
from millshare.mills import Mill


def joined(mills):
    """One mill of all the bases and all the pieces of the mills."""
    if not mills:
        raise NoMill("of no mills none is joined")
    base = sum([mill.base for mill in mills])
    runs = [run for mill in mills for run in mill.runs]
    return Mill(base, sorted(runs, key=lambda run: run[1]))


def taken_out(whole, part):
    """The mill that, joined with the part, is the whole."""
    left = {cost: many for many, cost in whole.runs}
    for many, cost in part.runs:
        if left.get(cost, 0) < many:
            raise NoPart("the part has more pieces of a cost than the whole")
        left[cost] -= many
    # The dict keeps the order of the whole, so the costs still rise.
    stretches = [(many, cost) for cost, many in left.items() if many > 0]
    return Mill(whole.base - part.base, stretches)

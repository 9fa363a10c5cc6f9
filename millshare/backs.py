"""The cost of a number of pieces, told back by prices."""

from millshare.errors import NoCount, NoPrice


def back(mill, prices, many):
    """The greatest, over the prices, of price times number less that price's gain."""
    if not prices:
        raise NoPrice("without prices nothing is told back")
    if many < 0 or many > mill.size:
        raise NoCount("a number of pieces is from 0 to the size")
    return max([price * many - mill.gain(price) for price in prices])

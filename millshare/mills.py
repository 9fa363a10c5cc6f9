"""Mills: a base, and stretches of pieces of rising costs."""

from millshare.errors import NoCount, NoMill

# No message names the number that is refused: Python does not write numbers of
# thousands of figures, and would raise an error of its own instead.


def _put_together(stretches):
    """The same pieces as a new list of stretches, one for each cost."""
    rows = []
    for many, cost in stretches:
        if many < 1:
            raise NoMill("a stretch has one piece or more")
        if rows and cost < rows[-1][1]:
            raise NoMill("a piece costs no less than the one ahead")
        if rows and cost == rows[-1][1]:
            rows[-1] = (rows[-1][0] + many, cost)
        else:
            rows.append((many, cost))
    return rows


class Mill:
    """A mill: `base`, `stretches` and `size` are only to be read."""

    def __init__(self, base, stretches):
        rows = _put_together(stretches)
        self.base = base
        self.stretches = rows
        # Who reads `stretches` gets a list that could be changed: all that is
        # told goes by this tuple, which can't be.
        self.runs = tuple(rows)
        self.size = sum([many for many, cost in rows])

    def cost(self, many):
        """The base and what the first so many pieces cost."""
        if many < 0 or many > self.size:
            raise NoCount("a number of pieces is from 0 to the size")
        total = self.base
        left = many
        for length, each in self.runs:
            taken = min(left, length)
            total += taken * each
            left -= taken
        return total

    def piece(self, number):
        """What the piece of that number costs, counted from 1."""
        # Of a piece that there is not, one of the two costs is refused.
        return self.cost(number) - self.cost(number - 1)

    def by_price(self, price):
        """How many pieces cost less than the price, and how many no more."""
        fewest = sum([many for many, cost in self.runs if cost < price])
        most = sum([many for many, cost in self.runs if cost <= price])
        return fewest, most

    def gain(self, price):
        """The most that the price brings by any number of pieces."""
        # Costs rise, so each piece below the price adds to what it brings,
        # and none behind them does.
        fewest, _ = self.by_price(price)
        return price * fewest - self.cost(fewest)

    def prices(self):
        """The costs of the stretches; of none of them 0 alone."""
        if not self.runs:
            return [0]
        return [cost for many, cost in self.runs]

"""Works: mills by names, and a number of pieces that is wanted of them."""

from millshare.errors import NoCount, NoName
from millshare.joins import joined
from millshare.shares import shares

LETTERS = "abcdefghijklmnopqrstuvwxyz"
LONGEST = 8


def _is_name(name):
    return 0 < len(name) <= LONGEST and all([sign in LETTERS for sign in name])


class Works:
    """Mills that are opened and closed by names, and share what is wanted."""

    def __init__(self):
        # The dict keeps the order in which the mills were opened.
        self._mills = {}
        self._many = 0

    def _size(self):
        return sum([mill.size for mill in self._mills.values()])

    def open_mill(self, name, mill):
        """Take in the mill by that name, behind all others."""
        if not _is_name(name):
            raise NoName("a name is 1 to 8 small letters a to z")
        if name in self._mills:
            raise NoName("a mill of that name stands already")
        self._mills[name] = mill

    def close_mill(self, name):
        """Give out the mill of that name; the others make what is wanted."""
        if name not in self._mills:
            raise NoName("no mill of that name stands")
        if self._many > self._size() - self._mills[name].size:
            raise NoCount("the other mills could not make what is wanted")
        return self._mills.pop(name)

    def want(self, many):
        """From now on, that number of pieces is wanted."""
        if many < 0 or many > self._size():
            raise NoCount("a wanted number is from 0 to all sizes together")
        self._many = many

    def told(self):
        """The cheapest shares of what is wanted, by the names of the mills."""
        if not self._mills:
            return {}
        numbers = shares(list(self._mills.values()), self._many)
        return dict(zip(list(self._mills), numbers))

    def cost(self):
        """What the wanted pieces cost, all bases counted."""
        if not self._mills:
            return 0
        return joined(list(self._mills.values())).cost(self._many)

    def wanted(self):
        """How many pieces are wanted."""
        return self._many

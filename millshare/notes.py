"""Mills written as a text, and read from one."""

from millshare.errors import NoText
from millshare.mills import Mill

DIGITS = "0123456789"
FIGURES = 40


def written(mill):
    """The text of a mill: its base, a colon, and its stretches."""
    words = [f"{many}x{cost}" for many, cost in mill.runs]
    return " ".join([f"{mill.base}:", *words])


def _number(text):
    """The number that is written just so, of at most 40 figures."""
    digits = text.removeprefix("-")
    if not 0 < len(digits) <= FIGURES:
        raise NoText("a number has from 1 to 40 figures")
    if not all([sign in DIGITS for sign in digits]):
        raise NoText("a number has only figures, and a minus ahead of them")
    if digits.startswith("0") and text != "0":
        raise NoText("a number does not begin with a nought, and nought has no sign")
    return int(text)


def _stretch(word):
    parts = word.split("x")
    if len(parts) != 2:
        raise NoText("a stretch is two numbers with an x between them")
    many = _number(parts[0])
    if many < 1:
        raise NoText("a stretch has one piece or more")
    return many, _number(parts[1])


def read(text):
    """The mill that is written as this text."""
    words = text.split(" ")
    head = words[0]
    if not head.endswith(":"):
        raise NoText("a text begins with a base and a colon")
    base = _number(head.removesuffix(":"))
    stretches = [_stretch(word) for word in words[1:]]
    # A mill puts like costs together, so none is written with two of them.
    for ahead, behind in zip(stretches, stretches[1:]):
        if behind[1] <= ahead[1]:
            raise NoText("the costs of the stretches rise")
    return Mill(base, stretches)

"""Mills written as a text and read from one."""

import re
import unittest

from millshare.errors import NoText
from millshare.mills import Mill
from millshare.notes import read, written
from tests.plain import fields, small_mills

NINES = "9" * 40
MOST = int(NINES)
LEAST = 10 ** 39

PAIRS = {
    "0:": (0, []),
    "5:": (5, []),
    "-5:": (-5, []),
    "5: 3x-2 4x0": (5, [(3, -2), (4, 0)]),
    "0: 1x0": (0, [(1, 0)]),
    "-10: 10x-10 20x-9 30x100": (-10, [(10, -10), (20, -9), (30, 100)]),
    f"{NINES}: {NINES}x-{NINES} 1x{NINES}": (MOST, [(MOST, -MOST), (1, MOST)]),
    f"-{NINES}: {NINES}x{LEAST} {LEAST}x{NINES}": (-MOST, [(MOST, LEAST), (LEAST, MOST)]),
    f"-{LEAST}: {LEAST}x-{LEAST}": (-LEAST, [(LEAST, -LEAST)]),
}

NO_TEXTS = (
    # a sign too many, one missing or another one
    "", ":", "5", "-:", "-", "5 :", "5:3x-2", "5:: 3x-2", "5; 3x-2", "5: 3x-2:", "5: 3x-2 4x0:",
    "5: 3-2", "5: 3xx2", "5: 3x", "5: x2", "5: x", "5: 3", "5: 3x2x", "5: 3x2x4", "5: 3X2", "5: 3*2",
    "5: 3x2,4x3", "5: 3x2, 4x3", "5: (3, 2)", "5: 3 x2", "5: 3x 2", "5:  ", "3x2", " : 3x2", ": 3x2",
    "5: 3x- 2", "5: 3x--2", "5: --3x2", "--5:", "- 5:", "5-:", "5: 3-x2", "5: 3x2-", "5.0:", "5: 3.0x2",
    "5: 3x2.0", "5: 3e1x2", "5: 3x1e2", "1_0:", "5: 1_0x2", "5: 3x1_0", "0x5:", "a:", "5: ax2", "5: 3xa",
    "5: 3x2 4x", "5: 3x2 4", "5: 3x2 x4", "5: 3x2 : 4x4", "5: 3x2 5: 4x4", "x:", "~5:", "5~:", "5: ~3x2",
    "5: 3x2 y", "5:x", "0", "0: 0", "5: 3x2\n", "5:\n", "\n5:", "5:\t3x2",
    # blanks
    "5:  3x2", "5: 3x2  4x3", " 5:", "5: ", " 5: 3x2", "5: 3x2 ", "5: 3x2 4x3 ", "5:  3x2 4x3", " ", "  ",
    "5: 3x2  ", " 0:", "0: ",
    # a sign of a plus, nought below nought, noughts at the front
    "+5:", "5: +3x2", "5: 3x+2", "+0:", "5: 3x+0", "-+5:", "-0:", "5: 3x-0", "5: -0x2", "00:", "05:",
    "-05:", "5: 03x2", "5: 3x02", "5: 3x-02", "5: 3x00", "-00:", "5: 3x2 4x03", "5: 3x2 04x3",
    # a `many` of nought or below
    "5: 0x2", "5: -1x2", "5: -3x-2", "5: 3x2 0x3", "5: 3x2 -1x3", "5: 0x2 3x3", f"5: -{NINES}x2",
    # costs that fall, and neighbours of one cost
    "5: 3x2 4x1", "5: 3x2 4x-2", "5: 3x-2 4x-3", "5: 3x0 4x-1", "5: 1x1 1x3 1x2", "5: 1x2 1x1 1x3",
    "5: 3x2 4x2", "5: 3x0 4x0", "5: 3x-2 4x-2", "5: 1x1 1x2 1x2", "5: 1x1 1x1 1x2", "5: 1x9 1x10 1x10",
    # numbers of 41 figures and of very many
    f"{NINES}0:", f"-{NINES}0:", f"5: {NINES}0x2", f"5: 3x{NINES}0", f"5: 3x-{NINES}0",
    f"5: 3x2 {NINES}0x3", f"5: 3x2 4x{NINES}0", f"{'9' * 5000}:", f"5: {'9' * 5000}x2",
    f"5: 3x{'9' * 5000}", f"0{NINES}:", f"{'0' * 5000}:",
)


class WrittenTest(unittest.TestCase):
    """[11], writing"""

    def test_texts_of_mills(self):
        for text, row in PAIRS.items():
            self.assertEqual(written(Mill(*row)), text)

    def test_like_costs_are_written_as_one_stretch(self):
        self.assertEqual(written(Mill(1, [(1, 2), (2, 2), (1, 3), (4, 3)])), "1: 3x2 5x3")

    def test_what_is_written_is_read_to_the_same_mill(self):
        for mill, _ in small_mills():
            self.assertEqual(fields(read(written(mill))), fields(mill))

    def test_forty_stretches_of_forty_figures(self):
        mill = Mill(-MOST, [(MOST - k, k - MOST) for k in range(40)])
        self.assertEqual(fields(read(written(mill))), fields(mill))


class ReadTest(unittest.TestCase):
    """[11], reading"""

    def test_mills_of_texts(self):
        for text, (base, rows) in PAIRS.items():
            wanted = base, rows, sum(many for many, _ in rows)
            self.assertEqual(fields(read(text)), wanted)

    def test_what_is_read_is_written_as_the_same_text(self):
        for text in PAIRS:
            self.assertEqual(written(read(text)), text)

    def test_a_size_of_more_figures_than_any_number(self):
        mill = read(f"0: {NINES}x1 {NINES}x2")
        self.assertEqual(mill.size, 2 * MOST)

    def test_other_texts_are_refused(self):
        for text in NO_TEXTS:
            with self.subTest(text=text), self.assertRaises(NoText):
                read(text)

    def test_a_sign_put_in_taken_out_or_changed(self):
        signs = [chr(code) for code in range(32, 127)]
        for text in ("0:", "-7: 2x-10 31x0 1x4"):
            for place in range(len(text) + 1):
                near = [text[:place] + text[place + 1:]]
                near += [text[:place] + sign + text[place:] for sign in signs]
                near += [text[:place] + sign + text[place + 1:] for sign in signs]
                for other in near:
                    with self.subTest(other=other):
                        self.assertEqual(is_refused(other), not is_plainly_read(other))
                        if not is_refused(other):
                            self.assertEqual(written(read(other)), other)

    def test_all_short_texts(self):
        read_ones = [text for text in short_texts("0: 1x-", 5) if not is_refused(text)]
        wanted = ["0:", "1:", "-1:", "10:", "11:", "-10:", "-11:", "100:", "101:", "110:", "111:"]
        longer = ["-100:", "-101:", "-110:", "-111:", *[f"1{k:03b}:" for k in range(8)]]
        self.assertEqual(sorted(read_ones), sorted(wanted + longer))

    def test_all_short_stretches(self):
        read_ones = [text for text in short_texts("01x-", 4) if not is_refused("0: " + text)]
        wanted = ["1x0", "1x1", "1x-1", "10x0", "10x1", "11x0", "11x1", "1x10", "1x11"]
        self.assertEqual(sorted(read_ones), sorted(wanted))


def is_plainly_read(text):
    """Whether some mill is written so, by a pattern and by the costs' order."""
    number = "(0|-?[1-9][0-9]{0,39})"
    if re.fullmatch(f"{number}:( [1-9][0-9]{{0,39}}x{number})*", text) is None:
        return False
    costs = [int(word.split("x")[1]) for word in text.split(" ")[1:]]
    return all(ahead < behind for ahead, behind in zip(costs, costs[1:]))


def is_refused(text):
    try:
        read(text)
    except NoText:
        return True
    return False


def short_texts(signs, longest):
    """All texts of these signs, of up to so many."""
    texts = [""]
    for text in texts:
        if len(text) < longest:
            texts.extend([text + sign for sign in signs])
    return texts


if __name__ == "__main__":
    unittest.main()

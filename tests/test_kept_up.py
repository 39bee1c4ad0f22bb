"""At any time each sheet is as if all were made anew: many lines, held against a page that does make all anew."""

import unittest

from keptsheets.calls import answer_box, answer_dot, answer_effect, answer_page, answer_sheet
from keptsheets.sheets import Page
from tests.asking import HIGHEST, ask, box, dot, effect, page, sheet
from tests.made_anew import FORMS, SlowPage


class Draw:
    """The same row of numbers each time, so that a line that fails fails again."""

    def __init__(self, seed):
        self.state = seed

    def below(self, limit):
        self.state = (self.state * 6364136223846793005 + 1442695040888963407) % 2 ** 64
        return (self.state >> 33) % limit

    def one_of(self, *choices):
        return choices[self.below(len(choices))]


def drawn_number(draw):
    return draw.one_of(0, 1, 4, 100, 127, 128, 254, 255, draw.below(256), draw.below(256), draw.below(258))


def drawn_effect(draw, ahead):
    kind = draw.below(10) if ahead else draw.one_of(0, 0, 0, 2)
    drawn = {"a": lambda: draw.below(max(ahead, 1)), "n": lambda: drawn_number(draw),
             "x": lambda: draw.one_of(0, 1, 2, 7, HIGHEST), "y": lambda: draw.one_of(0, 1, 2, 7, HIGHEST)}
    numbers = [kind] + [drawn[sign]() for sign in FORMS[kind]]
    slip = draw.below(40)
    if slip == 0:
        return numbers[:-1]
    if slip == 1:
        return numbers + [draw.below(3)]
    if slip == 2:
        numbers[draw.below(len(numbers))] = draw.one_of(ahead, ahead + 1, 10, HIGHEST)
    return numbers


def drawn_call(draw, sheets):
    """A call by its name and what it is given; mostly right, sometimes not."""
    k = draw.below(sheets + 1) if draw.below(8) == 0 else draw.below(max(sheets, 1))
    k = draw.one_of(k, 0)
    choice = draw.below(12)
    if choice < 2:
        return "sheet", [drawn_effect(draw, sheets)]
    if choice < 4:
        k = draw.below(sheets + 1)
        return "effect", [k, drawn_effect(draw, k)]
    if choice < 8:
        return "dot", [k, draw.below(5), draw.below(5), drawn_number(draw)]
    if choice == 11 and draw.below(12) == 0:
        return "page", [draw.below(8), draw.below(8)]
    far = draw.one_of(draw.below(4), draw.below(4), HIGHEST)
    return "box", [k, draw.below(6), draw.below(6), draw.below(4), far, drawn_number(draw)]


def drawn_line(seed):
    draw = Draw(seed)
    line = [("page", [1 + draw.below(6), 1 + draw.below(6)]), ("sheet", [[0]])]
    sheets = 1
    for turn in range(draw.below(8)):
        line.append(("sheet", [drawn_effect(draw, sheets)]))
        sheets += 1
    while len(line) < 40:
        line.append(drawn_call(draw, min(sheets, 10)))
    return line


QUICK = {"page": answer_page, "sheet": answer_sheet, "dot": answer_dot, "box": answer_box, "effect": answer_effect}
WRITTEN = {"page": page, "sheet": lambda numbers: sheet(*numbers), "dot": dot, "box": box,
           "effect": lambda k, numbers: effect(k, *numbers)}


class KeptUpTest(unittest.TestCase):
    def assert_same_sheets(self, quick, slow):
        self.assertEqual([kept.numbers for kept in quick.sheets],
                         [[sheet[place] for place in slow.places] for sheet in slow.sheets])
        self.assertEqual([kept.effect for kept in quick.sheets], slow.effects)

    def test_call_by_call(self):
        seen = {}
        for seed in range(300):
            quick, slow, awaited, line = Page(1, 1), SlowPage(), [], drawn_line(seed)
            for name, given in line:
                awaited.append(getattr(slow, name)(*given))
                self.assertEqual(QUICK[name](quick, *given), awaited[-1], (seed, name, given))
                self.assert_same_sheets(quick, slow)
                seen[(name, min(awaited[-1][0], 0))] = True
            self.assertEqual(ask(*[WRITTEN[name](*given) for name, given in line]), awaited, seed)
        told = {"page": (-1, 0), "sheet": (-5, -3, 0), "dot": (-6, -3, -2, -1, 0), "box": (-6, -3, -2, 0),
                "effect": (-3, -2, 0)}
        self.assertEqual(sorted(seen), sorted((name, answer) for name in told for answer in told[name]))


if __name__ == "__main__":
    unittest.main()

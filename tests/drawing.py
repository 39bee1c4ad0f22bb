"""Lines of calls of all kinds in any order, drawn anew but the same each time, with what a slow page answers."""

from tests import asking
from tests.asking import HIGHEST
from tests.made_anew import FORMS, SlowPage


class Draw:
    """The same row of numbers each time, so that a line that fails fails again."""

    def __init__(self, seed):
        self.state = seed

    def below(self, limit):
        self.state = (self.state * 6364136223846793005 + 1442695040888963407) % 2 ** 64
        return (self.state >> 33) % limit

    def one_of(self, *choices):
        return choices[self.below(len(choices))]


def drawn_number(draw):
    if draw.below(20) == 0:
        return draw.one_of(256, HIGHEST)
    return draw.one_of(0, 1, 4, 100, 127, 128, 254, 255, draw.below(256), draw.below(256))


def drawn_effect(draw, ahead):
    kind = draw.below(10) if ahead else draw.one_of(0, 0, 0, 2)
    drawn = {"a": lambda: draw.below(max(ahead, 1)), "n": lambda: drawn_number(draw),
             "x": lambda: draw.one_of(0, 1, 2, 7, HIGHEST), "y": lambda: draw.one_of(0, 1, 2, 7, HIGHEST)}
    numbers = [kind] + [drawn[sign]() for sign in FORMS[kind]]
    slip = draw.below(40)
    if slip == 0:
        return numbers[:-1]
    if slip == 1:
        return numbers + [draw.below(3)] * draw.one_of(1, 10 - len(numbers))
    if slip == 2:
        numbers[draw.below(len(numbers))] = draw.one_of(ahead, ahead + 1, 10, HIGHEST)
    return numbers


def drawn_sheet_number(draw, slow):
    """Mostly a sheet that there is, the painted ones among them more often."""
    sheets = len(slow.sheets)
    painted = [k for k in range(sheets) if slow.effects[k] == [0]]
    if draw.below(12) == 0 or sheets == 0:
        return draw.one_of(sheets, sheets + 1, HIGHEST)
    return draw.one_of(draw.below(sheets), *painted)


def drawn_place(draw, slow):
    """Mostly a cell that the page has."""
    if draw.below(10) == 0:
        return draw.one_of([slow.w, 0], [0, slow.h], [HIGHEST, 0], [slow.w - 1, HIGHEST])
    return [draw.below(slow.w), draw.below(slow.h)]


def drawn_name(draw):
    return draw.one_of("page", "sheet", "sheet", "sheet", "dot", "dot", "dot", "box", "box", "effect", "effect",
                       "cells", "cell", "look", "look", "needs", "list_sheets")


def drawn_given(draw, slow, name):
    """What a call of this name is given."""
    k = drawn_sheet_number(draw, slow)
    if name == "page":
        # Seldom right, so that a line has time to come to many sheets.
        right = not slow.sheets or draw.below(6) == 0
        return [1 + draw.below(6), 1 + draw.below(6)] if right else [draw.one_of(0, 7), draw.below(8)]
    if name == "sheet":
        return [drawn_effect(draw, len(slow.sheets))]
    if name == "dot":
        return [k, *drawn_place(draw, slow), drawn_number(draw)]
    if name == "box":
        return [k, *drawn_place(draw, slow), draw.below(4), draw.one_of(1, 2, 3, HIGHEST), drawn_number(draw)]
    if name == "effect":
        return [k, drawn_effect(draw, min(k, len(slow.sheets)))]
    if name in ("cells", "look"):
        return [k]
    return [] if name == "list_sheets" else [k, *drawn_place(draw, slow)]


def written(name, given):
    """The call's numbers as they are handed in."""
    if name == "sheet":
        return asking.sheet(*given[0])
    if name == "effect":
        return asking.effect(given[0], *given[1])
    return getattr(asking, name)(*given)


def drawn_line(seed, longest=40):
    """The calls as (name, given), and what the slow page answers to each."""
    draw, slow = Draw(seed), SlowPage()
    line, answered = [], []
    many = 1 + draw.below(longest) if seed % 3 == 0 else longest
    # Some lines begin with many sheets, so that there is no room for more.
    names = ["page"] + ["sheet"] * 10 if seed % 3 == 1 else []
    while len(line) < many:
        name = names[len(line)] if len(line) < len(names) else drawn_name(draw)
        given = drawn_given(draw, slow, name)
        line.append((name, given))
        answered.append(getattr(slow, name)(*given))
    return line, answered

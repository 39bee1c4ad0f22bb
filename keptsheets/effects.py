"""What an effect is, which cells a cell needs by it, and the number that it makes of theirs."""

PAINTED = 0
ADDED = 1
TURNED = 2
SOFT = 3
MOVED = 4
CUT = 5
GREATER = 6
HALF = 7
DIFFERENCE = 8
# 9, masked, is what is left where these are asked for one by one.

MOST_NUMBER = 255
BRIGHT = 128

# By effect: how many numbers tell it, its own among them, and how many of these are sheets (they come first).
LENGTHS = (1, 3, 2, 2, 4, 3, 3, 3, 3, 4)
SHEETS_TOLD = (0, 1, 1, 1, 1, 1, 2, 2, 2, 3)


def sheets_told(effect):
    """The sheets that are told with an effect, in their order, as often as they are told."""
    return effect[1:1 + SHEETS_TOLD[effect[0]]]


def is_effect(effect, ahead):
    """Whether these numbers are an effect, for a sheet that has so many sheets ahead of it."""
    if len(effect) == 0 or effect[0] >= len(LENGTHS):
        return False
    kind = effect[0]
    if len(effect) != LENGTHS[kind]:
        return False
    for sheet in sheets_told(effect):
        if sheet >= ahead:
            return False
    if kind == ADDED or kind == CUT:
        return effect[2] <= MOST_NUMBER
    return True


def cells_around(cell, wide, high):
    """The cell itself and those around it that the page has, in the cells' order."""
    column = cell % wide
    row = cell // wide
    found = []
    for y in range(max(row - 1, 0), min(row + 2, high)):
        for x in range(max(column - 1, 0), min(column + 2, wide)):
            found.append(y * wide + x)
    return found


def moved_from(cell, x, y, wide, high):
    """The cell x columns further left and y rows further up, round again."""
    column = (cell % wide - x) % wide
    row = (cell // wide - y) % high
    return row * wide + column


def needed_cells(effect, cell, wide, high):
    """The cells that a cell needs by its effect, each as (sheet, cell)."""
    kind = effect[0]
    if kind == SOFT:
        return [(effect[1], near) for near in cells_around(cell, wide, high)]
    if kind == MOVED:
        return [(effect[1], moved_from(cell, effect[2], effect[3], wide, high))]
    return [(sheet, cell) for sheet in sheets_told(effect)]


def nearest(above, below):
    """The nearest whole number to above / below; of two as near, the greater."""
    return (2 * above + below) // (2 * below)


def number_made(effect, numbers):
    """What an effect that isn't painted makes of the needed cells' numbers, which stand in the needs' order."""
    kind = effect[0]
    first = numbers[0]
    if kind == ADDED:
        return min(first + effect[2], MOST_NUMBER)
    if kind == TURNED:
        return MOST_NUMBER - first
    if kind == SOFT:
        return nearest(sum(numbers), len(numbers))
    if kind == MOVED:
        return first
    if kind == CUT:
        return MOST_NUMBER if first >= effect[2] else 0
    return number_mixed(kind, numbers)


def number_mixed(kind, numbers):
    """The part of number_made for the effects that are made of several sheets."""
    first = numbers[0]
    second = numbers[1]
    if kind == GREATER:
        return max(first, second)
    if kind == HALF:
        return nearest(first + second, 2)
    if kind == DIFFERENCE:
        return abs(first - second)
    return first if numbers[2] >= BRIGHT else second

"""What the tests have in common: calls written by name, and answers taken apart."""

from keptsheets.page import answers

HIGHEST = 4294967295


def page(w, h):
    return [0, w, h]


def sheet(*effect):
    return [1, len(effect), *effect]


def dot(k, x, y, n):
    return [2, k, x, y, n]


def box(k, x, y, u, v, n):
    return [3, k, x, y, u, v, n]


def effect(k, *numbers):
    return [4, k, len(numbers), *numbers]


def cells(k):
    return [5, k]


def cell(k, x, y):
    return [6, k, x, y]


def look(k):
    return [7, k]


def needs(k, x, y):
    return [8, k, x, y]


def list_sheets():
    return [9]


def taken_apart(answered):
    """One list for each call, without how many numbers it has."""
    parts = []
    place = 0
    while place < len(answered):
        behind = place + 1 + answered[place]
        parts.append(answered[place + 1:behind])
        place = behind
    assert place == len(answered)
    return parts


def ask(*calls):
    """The answers of these calls as one line, a list for each call."""
    assert 1 <= len(calls) <= 40
    line = [number for call in calls for number in call]
    assert len(line) <= 520
    return taken_apart(answers(line))


def last(*calls):
    return ask(*calls)[-1]


def numbers_differ(calls, k, wide, rows):
    """The cells of sheet k that, after these calls, do not have the numbers in rows.

    A sheet that becomes painted keeps its cells, and a dot changes a cell just where it has another
    number: so dots with the awaited numbers tell every cell that has another one.
    """
    dots = [dot(k, x, y, rows[y][x]) for y in range(len(rows)) for x in range(wide)]
    answered = ask(*calls, effect(k, 0), *dots)[len(calls):]
    assert answered[0] == [0, 0], "a sheet's cells stay when it becomes painted"
    places = [(x, y) for y in range(len(rows)) for x in range(wide)]
    return [place for place, answer in zip(places, answered[1:]) if answer[0] != 0]

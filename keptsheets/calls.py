"""The calls about one page: what each of them refuses, in the order that is told, and what it answers."""

from keptsheets.effects import MOST_NUMBER, is_effect, needed_cells, sheets_told

MOST_SIDE = 6
MOST_SHEETS = 10

NO_PLACE = -1
NO_SHEET = -2
NO_VALUE = -3
NO_ROOM = -5
NOT_PAINTED = -6


def is_side(length):
    return 1 <= length <= MOST_SIDE


def answer_page(page, w, h):
    if not is_side(w) or not is_side(h):
        return [NO_PLACE]
    page.begin(w, h)
    return [0]


def answer_sheet(page, effect):
    ahead = len(page.sheets)
    if ahead == MOST_SHEETS:
        return [NO_ROOM]
    if not is_effect(effect, ahead):
        return [NO_VALUE]
    return [page.add_sheet(effect)]


def answer_dot(page, k, x, y, n):
    if n > MOST_NUMBER:
        return [NO_VALUE]
    if not page.has_cell(x, y):
        return [NO_PLACE]
    return answer_paint(page, k, page.cells_in_box(x, y, 1, 1), n)


def answer_box(page, k, x, y, u, v, n):
    if n > MOST_NUMBER:
        return [NO_VALUE]
    return answer_paint(page, k, page.cells_in_box(x, y, u, v), n)


def answer_paint(page, k, cells, n):
    """What dot and box have in common, once the number and the cells are right."""
    if not page.has_sheet(k):
        return [NO_SHEET]
    sheet = page.sheets[k]
    if not sheet.is_painted():
        return [NOT_PAINTED]
    return page.paint(k, cells, n)


def answer_effect(page, k, effect):
    if not page.has_sheet(k):
        return [NO_SHEET]
    if not is_effect(effect, k):
        return [NO_VALUE]
    return page.give_effect(k, effect)


def answer_cells(page, k):
    if not page.has_sheet(k):
        return [NO_SHEET]
    return list(page.sheets[k].numbers)


def answer_cell(page, k, x, y):
    if not page.has_sheet(k):
        return [NO_SHEET]
    if not page.has_cell(x, y):
        return [NO_PLACE]
    return [page.sheets[k].numbers[page.cell_at(x, y)]]


def answer_look(page, k):
    if not page.has_sheet(k):
        return [NO_SHEET]
    sheet = page.sheets[k]
    cells = sheet.fresh_cells()
    answer = [len(cells)]
    for cell in cells:
        answer.extend([cell, sheet.numbers[cell]])
    sheet.mark_seen()
    return answer


def answer_needs(page, k, x, y):
    if not page.has_sheet(k):
        return [NO_SHEET]
    if not page.has_cell(x, y):
        return [NO_PLACE]
    needed = needed_cells(page.sheets[k].effect, page.cell_at(x, y), page.wide, page.high)
    answer = [len(needed)]
    for told, cell in needed:
        answer.extend([told, cell])
    return answer


def answer_list(page):
    answer = [len(page.sheets)]
    for sheet in page.sheets:
        answer.extend([len(sheets_told(sheet.effect)), len(sheet.fresh_cells()), sum(sheet.numbers)])
    return answer

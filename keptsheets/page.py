"""The interface: a list of calls about one page goes in, the list of their answers comes out."""

from keptsheets.calls import answer_box, answer_dot, answer_effect, answer_page, answer_sheet
from keptsheets.calls import answer_cell, answer_cells, answer_list, answer_look, answer_needs
from keptsheets.sheets import Page

PAGE = 0
SHEET = 1
DOT = 2
BOX = 3
EFFECT = 4
CELLS = 5
CELL = 6
LOOK = 7
NEEDS = 8
# 9, list, is what is left where these are asked for one by one.

# By call: how many numbers it has; where an effect ends it, up to how many numbers that effect has.
LENGTHS = (3, 2, 5, 7, 3, 2, 4, 2, 4, 1)


class UnknownCall(ValueError):
    """A call's number that the program doesn't have."""


def answers(calls):
    """For each call, in order: how many numbers are answered, then these."""
    page = Page(1, 1)
    answered = []
    place = 0
    while place < len(calls):
        behind = end_of_call(calls, place)
        answer = answer_call(page, calls[place:behind])
        answered.append(len(answer))
        answered.extend(answer)
        place = behind
    return answered


def end_of_call(calls, place):
    """Where the call that begins at this place has ended."""
    number = calls[place]
    if number >= len(LENGTHS):
        raise UnknownCall(f"there is no call {number}")
    behind = place + LENGTHS[number]
    if number == SHEET or number == EFFECT:
        return behind + calls[behind - 1]
    return behind


def answer_call(page, call):
    number = call[0]
    if number == PAGE:
        return answer_page(page, call[1], call[2])
    if number == SHEET:
        return answer_sheet(page, call[2:])
    if number == DOT:
        return answer_dot(page, call[1], call[2], call[3], call[4])
    if number == BOX:
        return answer_box(page, call[1], call[2], call[3], call[4], call[5], call[6])
    if number == EFFECT:
        return answer_effect(page, call[1], call[3:])
    return answer_telling(page, call)


def answer_telling(page, call):
    """The part of answer_call for the calls that tell of sheets and leave their numbers."""
    number = call[0]
    if number == CELLS:
        return answer_cells(page, call[1])
    if number == CELL:
        return answer_cell(page, call[1], call[2], call[3])
    if number == LOOK:
        return answer_look(page, call[1])
    if number == NEEDS:
        return answer_needs(page, call[1], call[2], call[3])
    return answer_list(page)

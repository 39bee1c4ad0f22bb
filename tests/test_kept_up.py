"""What holds over the whole program: many lines of all calls, held against a page that does make all anew."""

import unittest

from keptsheets.page import answers
from tests.asking import ask, cells, list_sheets, look, needs, taken_apart
from tests.drawing import drawn_line, written
from tests.made_anew import SlowPage

REFUSED = {"page": (-1,), "sheet": (-5, -3), "dot": (-6, -3, -2, -1), "box": (-6, -3, -2), "effect": (-3, -2),
           "cells": (-2,), "cell": (-2, -1), "look": (-2,), "needs": (-2, -1), "list_sheets": ()}


def one_list(calls):
    return [number for call in calls for number in call]


def slow_page_after(line):
    slow = SlowPage()
    for name, given in line:
        getattr(slow, name)(*given)
    return slow


def all_there_is(slow):
    """All that can be asked of a page, in parts that are short enough to stand behind 20 other calls."""
    sheets = range(len(slow.sheets))
    every_need = [needs(k, x, y) for k in sheets for x, y in slow.places]
    yield [list_sheets(), *[cells(k) for k in sheets]]
    yield [look(k) for k in sheets] + [list_sheets()]
    for place in range(0, len(every_need), 20):
        yield every_need[place:place + 20]


class KeptUpTest(unittest.TestCase):
    def test_all_calls_in_any_order(self):
        seen = set()
        for seed in range(600):
            line, awaited = drawn_line(seed)
            self.assertEqual(ask(*[written(*call) for call in line]), awaited, (seed, line))
            seen |= {(call[0], min(answer[0], 0)) for call, answer in zip(line, awaited)}
        told = {(name, answer) for name in REFUSED for answer in (0, *REFUSED[name])}
        self.assertEqual(seen, told)

    def test_all_sheets_as_if_made_anew(self):
        for seed in range(150):
            line = drawn_line(seed, 19)[0]
            slow = slow_page_after(line)
            names = [("list_sheets", [])] + [(name, [k]) for name in ("cells", "look") for k in range(len(slow.sheets))]
            awaited = [getattr(slow, name)(*given) for name, given in names]
            answered = ask(*[written(*call) for call in line + names])
            self.assertEqual(answered[len(line):], awaited, (seed, line))

    def test_after_a_refusal_all_is_as_it_was(self):
        seen = set()
        for seed in range(200):
            line, awaited = drawn_line(seed, 20)
            calls = [written(*call) for call in line]
            refused = [place for place, answer in enumerate(awaited) if answer[0] < 0]
            for place in refused:
                ahead, wrong = calls[:place], calls[place]
                for asked in all_there_is(slow_page_after(line[:place])):
                    before = ask(*ahead, *asked)[place:]
                    self.assertEqual(ask(*ahead, wrong, *asked)[place:], [awaited[place], *before], (seed, line))
                seen.add((line[place][0], awaited[place][0]))
        self.assertEqual(seen, {(name, answer) for name in REFUSED for answer in REFUSED[name]})

    def test_the_list_stays_and_twice_the_same_is_answered(self):
        for seed in range(100):
            line, awaited = drawn_line(seed)
            handed_in = one_list([written(*call) for call in line])
            kept = list(handed_in)
            first = answers(handed_in)
            self.assertEqual(handed_in, kept)
            self.assertEqual(answers(handed_in), first)
            self.assertEqual(taken_apart(first), awaited)
            self.assertEqual({type(number) for number in first}, {int})


if __name__ == "__main__":
    unittest.main()

"""Promise 1, page."""

import unittest

from tests.asking import HIGHEST, ask, box, dot, last, page, sheet


class PageTest(unittest.TestCase):
    def test_every_size_from_1_to_6_either_way(self):
        for w in range(1, 7):
            for h in range(1, 7):
                answered = ask(page(w, h), sheet(0), box(0, 0, 0, HIGHEST, HIGHEST, 7), dot(0, w - 1, h - 1, 8),
                               dot(0, w, h - 1, 8), dot(0, w - 1, h, 8))
                self.assertEqual(answered, [[0], [0], [w * h, 0], [1, 0], [-1], [-1]])

    def test_other_sizes_are_refused(self):
        for wrong in (0, 7, HIGHEST):
            for right in (1, 6):
                self.assertEqual(last(page(wrong, right)), [-1])
                self.assertEqual(last(page(right, wrong)), [-1])
            for other in (0, 7, HIGHEST):
                self.assertEqual(last(page(wrong, other)), [-1])

    def test_a_line_begins_with_a_page_of_one_cell_and_no_sheets(self):
        self.assertEqual(ask(dot(0, 0, 0, 1), sheet(0), dot(0, 0, 0, 1), dot(0, 1, 0, 1), dot(0, 0, 1, 1)),
                         [[-2], [0], [1, 0], [-1], [-1]])

    def test_a_page_has_no_sheets_again(self):
        answered = ask(page(2, 2), sheet(0), sheet(2, 0), dot(0, 1, 1, 9), page(2, 2), dot(0, 0, 0, 1),
                       sheet(2, 0), sheet(0), dot(0, 1, 1, 0), dot(0, 1, 1, 9))
        self.assertEqual(answered, [[0], [0], [1], [1, 1], [0], [-2], [-3], [0], [0, 0], [1, 0]])

    def test_a_page_makes_room_for_ten_sheets_again(self):
        ten = [sheet(0) for k in range(10)]
        answered = ask(*ten, sheet(0), page(1, 1), *ten, sheet(0))
        numbers = [[k] for k in range(10)]
        self.assertEqual(answered, numbers + [[-5], [0]] + numbers + [[-5]])

    def test_a_refused_page_leaves_all_as_it_was(self):
        for wrong in (page(0, 3), page(3, 0), page(7, 3), page(3, 7), page(HIGHEST, 3), page(3, HIGHEST)):
            answered = ask(page(3, 2), sheet(0), sheet(3, 0), dot(0, 2, 1, 90), wrong, dot(0, 2, 1, 90),
                           dot(0, 3, 0, 1), dot(0, 0, 2, 1), dot(0, 2, 1, 0), sheet(1, 1, 5))
            self.assertEqual(answered, [[0], [0], [1], [1, 4], [-1], [0, 0], [-1], [-1], [1, 4], [2]])


if __name__ == "__main__":
    unittest.main()

"""list: how many sheets; of each what is told with its effect, what is new, and the sum."""

import unittest

from tests.asking import ask, box, dot, effect, last, list_sheets, look, page, sheet


class ListTest(unittest.TestCase):
    def test_without_sheets(self):
        self.assertEqual(last(list_sheets()), [0])
        self.assertEqual(last(page(6, 6), list_sheets()), [0])
        self.assertEqual(last(sheet(2, 0), list_sheets()), [0])

    def test_how_many_sheets_each_effect_tells(self):
        for numbers, told in (((0,), 0), ((1, 0, 9), 1), ((2, 2), 1), ((3, 2), 1), ((4, 1, 2, 2), 1), ((5, 2, 1), 1),
                              ((6, 0, 1), 2), ((7, 1, 2), 2), ((8, 2, 0), 2), ((9, 0, 1, 2), 3)):
            answer = last(sheet(0), sheet(0), sheet(0), sheet(*numbers), list_sheets())
            self.assertEqual(answer[:10] + answer[11:12], [4, 0, 1, 0, 0, 1, 0, 0, 1, 0, 1], numbers)
            self.assertEqual(answer[10], told, numbers)

    def test_a_sheet_counts_as_often_as_it_is_told(self):
        for numbers, told in (((6, 0, 0), 2), ((7, 0, 0), 2), ((8, 0, 0), 2), ((9, 0, 0, 0), 3)):
            self.assertEqual(last(sheet(0), sheet(*numbers), list_sheets()), [2, 0, 1, 0, told, 1, 0])

    def test_several_sheets_in_their_order(self):
        answer = last(page(2, 1), sheet(0), sheet(2, 0), sheet(6, 0, 1), sheet(9, 0, 1, 2), dot(0, 0, 0, 200),
                      list_sheets())
        self.assertEqual(answer, [4, 0, 2, 200, 1, 2, 310, 2, 2, 455, 3, 2, 200])

    def test_ten_sheets(self):
        self.assertEqual(last(*[sheet(0)] * 11, list_sheets()), [10] + [0, 1, 0] * 10)

    def test_the_greatest_sum(self):
        self.assertEqual(last(page(6, 6), sheet(0), sheet(2, 0), list_sheets()), [2, 0, 36, 0, 1, 36, 36 * 255])

    def test_new_before_and_after_look(self):
        answered = ask(page(3, 1), sheet(0), sheet(2, 0), list_sheets(), look(0), list_sheets(), look(1), list_sheets(),
                       box(0, 0, 0, 2, 1, 5), list_sheets(), look(1), list_sheets())
        self.assertEqual(answered[3::2], [[2, 0, 3, 0, 1, 3, 765], [2, 0, 0, 0, 1, 3, 765], [2, 0, 0, 0, 1, 0, 765],
                                          [2, 0, 2, 10, 1, 2, 755], [2, 0, 2, 10, 1, 0, 755]])

    def test_changed_back_ones_are_new(self):
        answer = last(page(3, 1), sheet(0), look(0), dot(0, 1, 0, 5), dot(0, 1, 0, 0), dot(0, 2, 0, 0), list_sheets())
        self.assertEqual(answer, [1, 0, 1, 0])

    def test_the_effect_that_a_sheet_has_now(self):
        answered = ask(page(2, 1), sheet(0), sheet(0), look(1), effect(1, 7, 0, 0), list_sheets(), effect(1, 2, 0),
                       list_sheets(), effect(1, 0), list_sheets())
        self.assertEqual(answered[5::2], [[2, 0, 2, 0, 2, 0, 0], [2, 0, 2, 0, 1, 2, 510], [2, 0, 2, 0, 0, 2, 510]])

    def test_asking_changes_nothing(self):
        calls = (page(2, 1), sheet(0), sheet(2, 0), look(0), dot(0, 1, 0, 3))
        self.assertEqual(ask(*calls, list_sheets(), list_sheets(), look(0), look(1))[5:],
                         [[2, 0, 1, 3, 1, 2, 507], [2, 0, 1, 3, 1, 2, 507], [1, 1, 3], [2, 0, 255, 1, 252]])

    def test_after_page_it_is_without_sheets_again(self):
        calls = (page(2, 2), sheet(0), sheet(2, 0))
        self.assertEqual(last(*calls, page(2, 2), list_sheets()), [0])
        self.assertEqual(last(*calls, page(0, 2), list_sheets()), [2, 0, 4, 0, 1, 4, 1020])
        self.assertEqual(last(*calls, look(0), page(3, 2), sheet(0), list_sheets()), [1, 0, 6, 0])


if __name__ == "__main__":
    unittest.main()

"""How calls are handed in and answers given back."""

import unittest

from keptsheets.page import UnknownCall, answers

# Every call, right and refused.
LINE = [0, 3, 2, 1, 1, 0, 1, 3, 1, 0, 5, 2, 0, 2, 1, 9, 3, 0, 0, 0, 2, 9, 8, 4, 1, 2, 2, 0, 2, 1, 0, 0, 4,
        1, 0, 4, 1, 0, 0, 7, 7, 5, 0, 5, 2, 6, 1, 2, 1, 6, 1, 3, 1, 7, 0, 7, 0, 7, 9, 8, 1, 2, 1, 8, 0, 0, 0, 8, 1, 0, 2,
        9]

ANSWERS = [1, 0, 1, 0, 1, 1, 2, 1, 1, 2, 4, 4, 2, 6, 0, 1, -6, 1, -3, 1, -3, 1, -1, 6, 8, 8, 0, 8, 8, 9, 1, -2,
           1, 246, 1, -1, 13, 6, 0, 8, 1, 8, 2, 0, 3, 8, 4, 8, 5, 9, 1, 0, 1, -2, 3, 1, 0, 5, 1, 0, 1, -1,
           7, 2, 0, 0, 41, 1, 6, 1489]


class Kept(list):
    """A list that may be read but not changed, not even for a while."""

    def refuse(self, *given):
        raise AssertionError("the list that is handed in is changed")

    append = extend = insert = pop = remove = clear = sort = reverse = refuse
    __setitem__ = __delitem__ = __iadd__ = __imul__ = refuse


class InterfaceTest(unittest.TestCase):
    def test_how_many_numbers_are_answered_comes_ahead(self):
        self.assertEqual(answers(LINE), ANSWERS)
        self.assertEqual(answers([0, 1, 1]), [1, 0])
        self.assertEqual(answers([4, 0, 0]), [1, -2])
        self.assertEqual(answers([9]), [1, 0])

    def test_a_list_of_whole_numbers_is_given_back(self):
        answered = answers(LINE)
        self.assertIs(type(answered), list)
        self.assertEqual({type(number) for number in answered}, {int})

    def test_what_is_handed_in_is_not_changed(self):
        line = list(LINE)
        answers(line)
        self.assertEqual(line, LINE)
        self.assertEqual(answers(Kept(LINE)), ANSWERS)

    def test_nothing_is_kept_from_one_time_to_the_next(self):
        self.assertEqual(answers(LINE), answers(LINE))
        self.assertEqual(answers([2, 0, 0, 0, 1]), [1, -2])
        self.assertEqual(answers([1, 1, 0, 2, 0, 1, 0, 1]), [1, 0, 1, -1])
        self.assertEqual(answers([9, 5, 0, 1, 1, 0, 7, 0]), [1, 0, 1, -2, 1, 0, 3, 1, 0, 0])
        self.assertEqual(answers(LINE), ANSWERS)

    def test_the_answer_is_the_callers_own(self):
        answered = answers(LINE)
        answered.clear()
        self.assertEqual(answers(LINE), ANSWERS)

    def test_an_effect_of_ten_numbers_is_passed_by_whole(self):
        ten = [0, 1, 2, 3, 4, 5, 6, 7, 8, 9]
        self.assertEqual(answers([1, 10, *ten, 1, 1, 0, 4, 0, 10, *ten, 4, 0, 1, 0]), [1, -3, 1, 0, 1, -3, 2, 0, 0])

    def test_a_full_line(self):
        self.assertEqual(answers([3, 0, 0, 0, 1, 1, 1] * 40), [1, -2] * 40)
        self.assertEqual(answers([0, 6, 6, 1, 1, 0] + [5, 0] * 38), [1, 0, 1, 0] + ([36] + [0] * 36) * 38)
        ten = [number for k in range(10) for number in (1, k)]
        self.assertEqual(answers([1, 10] + [0] * 10 + [1, 1, 0] * 11), [1, -3] + ten + [1, -5])

    def test_a_call_that_there_is_not(self):
        for number in (10, 11, 4294967295):
            with self.assertRaises(UnknownCall):
                answers([0, 1, 1, number])


if __name__ == "__main__":
    unittest.main()

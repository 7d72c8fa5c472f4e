"""The form of what is handed in and of what is given back."""

import unittest

from lettersgone.claims import answers
from tests.helper import ALIKE, BEGIN, DROP, FORGET, KEEP, LETTERS, MORE, PUT, SAYS, SET, UNDER, WITHOUT
from tests.helper import flat

EVERY_CALL = [
    (PUT, 1), (BEGIN, 5), (BEGIN, 2), (PUT, 13), (PUT, 16), (PUT, 8), (FORGET, 0, 1), (KEEP, 1, 1), (UNDER, 0, 1),
    (LETTERS, 0), (LETTERS, 1), (WITHOUT, 0, 1), (SAYS, 0, 3), (ALIKE, 0, 1, 2), (MORE, 1, 0, 3), (LETTERS, 2),
    (SET, 0, 10), (LETTERS, 0), (SET, 0, 15), (LETTERS, 0), (DROP, 0), (FORGET, 0, 4), (FORGET, 0, 0), (BEGIN, 1),
    (DROP, 0),
]
EVERY_ANSWER = [
    1, -11, 1, -22, 1, 0, 1, 0, 1, -22, 1, 1, 1, 15, 1, 10, 1, 12,
    3, 2, 0, 1, 3, 2, 0, 1, 1, 0, 1, 1, 1, 0, 1, 1, 1, -2,
    1, 13, 2, 1, 0, 1, 10, 1, 0, 1, 1, 1, -22, 1, 8, 1, 0,
    1, -2,
]


class Form(unittest.TestCase):
    def test_calls_have_the_numbers_that_the_document_gives(self):
        self.assertEqual(answers([0, 2, 1, 13, 1, 8]), [1, 0, 1, 0, 1, 1])
        self.assertEqual(answers([0, 2, 1, 13, 2, 0, 14, 3, 0]), [1, 0, 1, 0, 1, 13, 1, 0])
        self.assertEqual(answers([0, 2, 1, 14, 4, 0, 1, 5, 0, 3, 6, 0, 1]), [1, 0, 1, 0, 1, 15, 1, 14, 1, 12])
        self.assertEqual(answers([0, 2, 1, 14, 7, 0, 8, 0, 1, 9, 0, 3]), [1, 0, 1, 0, 3, 2, 0, 1, 1, 0, 1, 1])
        self.assertEqual(answers([0, 1, 1, 2, 1, 3, 10, 0, 1, 1, 11, 0, 1, 1]), [1, 0, 1, 0, 1, 1, 1, 0, 1, 1])

    def test_several_calls_on_one_object(self):
        self.assertEqual(answers(flat(EVERY_CALL)), EVERY_ANSWER)

    def test_letters_has_its_count(self):
        self.assertEqual(answers([0, 4, 1, 0, 7, 0]), [1, 0, 1, 0, 1, 0])
        self.assertEqual(answers([0, 4, 1, 63624, 7, 0]), [1, 0, 1, 0, 5, 4, 0, 1, 2, 3])

    def test_one_call(self):
        self.assertEqual(answers([0, 1]), [1, 0])
        self.assertEqual(answers([7, 0]), [1, -11])

    def test_sixty_calls(self):
        self.assertEqual(answers([0, 1, 1, 2] + [11, 0, 0, 1] * 58), [1, 0, 1, 0] + [1, 1] * 58)

    def test_what_is_handed_in_stays(self):
        handed_in = flat(EVERY_CALL)
        answers(handed_in)
        self.assertEqual(handed_in, flat(EVERY_CALL))

    def test_what_is_given_back_is_another_list(self):
        handed_in = flat(EVERY_CALL)
        given_back = answers(handed_in)
        self.assertIsNot(given_back, handed_in)
        given_back.clear()
        self.assertEqual(answers(handed_in), EVERY_ANSWER)

    def test_nothing_is_kept(self):
        handed_in = flat(EVERY_CALL)
        self.assertEqual(answers(handed_in), answers(handed_in))
        answers([0, 4, 1, 5])
        self.assertEqual(answers([4, 0, 0]), [1, -11])
        self.assertEqual(answers([0, 4, 4, 0, 0]), [1, 0, 1, -2])

    def test_whole_numbers_in_a_list_and_no_truth_values(self):
        given_back = answers(flat(EVERY_CALL))
        self.assertIs(type(given_back), list)
        for number in given_back:
            self.assertIs(type(number), int)


if __name__ == "__main__":
    unittest.main()

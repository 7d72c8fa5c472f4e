"""The form of what is handed in and of what is given back."""

import unittest

from lettersgone.claims import answers
from tests.helper import ALIKE, BEGIN, BOTH, DROP, EITHER, ENOUGH, FOLLOWS, FORGET, KEEP, LARGEST, LEAST, LETTERS, LOOK
from tests.helper import LOST, MORE, NOT, OF_ONE, OF_ONE_AND_LETTERS, OF_TWO, OF_TWO_AND_LETTERS, PUT, SAYS, SET
from tests.helper import SETTLES, STATE, TOGETHER, UNDER, WITHOUT, WORLDS
from tests.helper import flat

EVERY_CALL = [
    (PUT, 1), (BEGIN, 5), (BEGIN, 2), (PUT, 13), (PUT, 16), (PUT, 8), (FORGET, 0, 1), (KEEP, 1, 1), (UNDER, 0, 1),
    (LETTERS, 0), (LETTERS, 1), (WITHOUT, 0, 1), (SAYS, 0, 3), (ALIKE, 0, 1, 2), (MORE, 1, 0, 3), (LETTERS, 2),
    (SET, 0, 10), (LETTERS, 0), (SET, 0, 15), (LETTERS, 0), (DROP, 0), (FORGET, 0, 4), (FORGET, 0, 0), (BEGIN, 1),
    (DROP, 0),
    (STATE,), (BEGIN, 2), (PUT, 13), (PUT, 8), (LOST, 0, 1), (SETTLES, 1), (FOLLOWS, 1, 0), (ENOUGH, 1, 0, 2),
    (LEAST, 1, 0), (LEAST, 0, 1), (TOGETHER, 0, 1, 1), (BOTH, 0, 1), (EITHER, 0, 1), (NOT, 0), (WORLDS, 0), (LOOK, 0),
    (LOOK, 2), (STATE,),
]
EVERY_ANSWER = [
    1, -11, 1, -22, 1, 0, 1, 0, 1, -22, 1, 1, 1, 15, 1, 10, 1, 12,
    3, 2, 0, 1, 3, 2, 0, 1, 1, 0, 1, 1, 1, 0, 1, 1, 1, -2,
    1, 13, 2, 1, 0, 1, 10, 1, 0, 1, 1, 1, -22, 1, 8, 1, 0,
    1, -2,
    2, 1, 0, 1, 0, 1, 0, 1, 1, 1, 1, 3, 2, 1, 1, 1, 1, 1, 1,
    2, 1, 2, 1, -33, 1, 1, 1, 8, 1, 13, 1, 2, 4, 3, 0, 2, 3, 1, 13,
    1, -2, 2, 2, 2,
]


def refuse_change(*given):
    raise AssertionError("what is handed in is changed")


class Unchanging(list):
    """A list that fails when it is changed, even if it would be put back."""

    append = clear = extend = insert = pop = remove = reverse = sort = refuse_change
    __setitem__ = __delitem__ = __iadd__ = __imul__ = refuse_change


class Form(unittest.TestCase):
    def test_calls_have_the_numbers_that_the_document_gives(self):
        self.assertEqual(answers([0, 2, 1, 13, 1, 8]), [1, 0, 1, 0, 1, 1])
        self.assertEqual(answers([0, 2, 1, 13, 2, 0, 14, 3, 0]), [1, 0, 1, 0, 1, 13, 1, 0])
        self.assertEqual(answers([0, 2, 1, 14, 4, 0, 1, 5, 0, 3, 6, 0, 1]), [1, 0, 1, 0, 1, 15, 1, 14, 1, 12])
        self.assertEqual(answers([0, 2, 1, 14, 7, 0, 8, 0, 1, 9, 0, 3]), [1, 0, 1, 0, 3, 2, 0, 1, 1, 0, 1, 1])
        self.assertEqual(answers([0, 1, 1, 2, 1, 3, 10, 0, 1, 1, 11, 0, 1, 1]), [1, 0, 1, 0, 1, 1, 1, 0, 1, 1])

    def test_the_later_calls_have_theirs(self):
        here, before = [0, 2, 1, 8, 1, 14], [1, 0, 1, 0, 1, 1]
        self.assertEqual(answers(here + [12, 0, 1, 13, 0, 14, 0, 1]), before + [1, 1, 3, 2, 1, 1, 1, 1])
        self.assertEqual(answers(here + [15, 0, 1, 0, 15, 0, 1, 1, 16, 0, 1]), before + [1, 0, 1, 1, 3, 2, 1, 2])
        self.assertEqual(answers(here + [16, 1, 0, 17, 0, 1, 3, 18, 0, 1]), before + [1, -33, 1, 1, 1, 8])
        self.assertEqual(answers(here + [19, 0, 1, 20, 0, 21, 1]), before + [1, 14, 1, 7, 4, 3, 1, 2, 3])
        self.assertEqual(answers(here + [22, 1, 22, 0, 23]), before + [1, 14, 1, 8, 2, 2, 2])

    def test_several_calls_on_one_object(self):
        self.assertEqual(answers(flat(EVERY_CALL)), EVERY_ANSWER)

    def test_letters_has_its_count(self):
        self.assertEqual(answers([0, 4, 1, 0, 7, 0]), [1, 0, 1, 0, 1, 0])
        self.assertEqual(answers([0, 4, 1, 63624, 7, 0]), [1, 0, 1, 0, 5, 4, 0, 1, 2, 3])

    def test_settles_least_and_worlds_have_theirs(self):
        self.assertEqual(answers([0, 4, 1, 0, 13, 0, 16, 0, 0, 21, 0]), [1, 0, 1, 0, 5, 4, 1, 1, 1, 1, 2, 1, 0, 1, 0])
        self.assertEqual(
            answers([0, 4, 1, 32768, 1, 65534, 13, 1, 16, 0, 1, 21, 1]),
            [1, 0, 1, 0, 1, 1, 5, 4, 2, 2, 2, 2, 5, 4, 1, 2, 4, 8, 16, 15] + list(range(1, 16)),
        )

    def test_state_has_two_numbers_and_no_count(self):
        self.assertEqual(answers([0, 4, 23, 1, 5, 23]), [1, 0, 2, 4, 0, 1, 0, 2, 4, 1])

    def test_all_others_have_one_number(self):
        counted = (LETTERS, SETTLES, LEAST, WORLDS)
        calls = [(call, 0) for call in OF_ONE] + [(call, 0, 1) for call in OF_ONE_AND_LETTERS + OF_TWO]
        calls += [(call, 0, 1, 1) for call in OF_TWO_AND_LETTERS]
        for m in (1, 2, 3, 4):
            for call in calls:
                given_back = answers([0, m, 1, 2, 1, 3] + list(call))[6:]
                self.assertEqual(given_back[0], 1 + given_back[1] if call[0] in counted else 1, call)
                self.assertEqual(len(given_back), 1 + given_back[0], call)

    def test_one_call(self):
        self.assertEqual(answers([0, 1]), [1, 0])
        self.assertEqual(answers([7, 0]), [1, -11])
        self.assertEqual(answers([23]), [1, -11])

    def test_sixty_calls(self):
        self.assertEqual(answers([0, 1, 1, 2] + [11, 0, 0, 1] * 58), [1, 0, 1, 0] + [1, 1] * 58)
        self.assertEqual(answers([23] * 60), [1, -11] * 60)
        self.assertEqual(answers([0, 4, 1, 65535] + [21, 0] * 57 + [23]),
                         [1, 0, 1, 0] + ([17, 16] + list(range(16))) * 57 + [2, 4, 1])
        self.assertEqual(answers([0, 4, 1, 32768] + [16, 0, 0] * 58), [1, 0, 1, 0] + [2, 1, 15] * 58)
        self.assertEqual(answers([0, 4] + [1, 9] * 4 + [3, 0] * 5 + [1, 9] * 50),
                         [1, 0, 1, 0, 1, 1, 1, 2, 1, 3, 1, 3, 1, 2, 1, 1, 1, 0, 1, -2]
                         + [1, 0, 1, 1, 1, 2, 1, 3] + [1, -28] * 46)

    def test_two_hundred_and_forty_numbers(self):
        # Only sixty calls of four numbers are that many, and begin has two.
        for call in OF_TWO_AND_LETTERS:
            self.assertEqual(answers([call, 0, 0, 0] * 60), [1, -11] * 60)
            self.assertEqual(answers([call, LARGEST, LARGEST, LARGEST] * 60), [1, -11] * 60)

    def test_nearly_as_many_behind_a_begin(self):
        # Enough, and together, of the first letter and that it isn't so: 2 + 2 + 2 + 57 * 4 numbers.
        handed_in = [0, 1, 1, 2, 1, 1] + [15, 0, 0, 1, 17, 0, 1, 1, 10, 0, 1, 0] * 19
        self.assertEqual(len(handed_in), 234)
        self.assertEqual(answers(handed_in), [1, 0, 1, 0, 1, 1] + [1, 1, 1, 0, 1, 1] * 19)

    def test_the_largest_arguments(self):
        handed_in = [0, LARGEST, 0, 4, 1, LARGEST, 1, 65535, 2, 0, LARGEST, 3, LARGEST]
        told = [1, -22, 1, 0, 1, -22, 1, 0, 1, -22, 1, -2]
        for call in OF_ONE:
            self.assertEqual(answers(handed_in + [call, LARGEST, 23]), told + [1, -2, 2, 4, 1])
        for call in OF_ONE_AND_LETTERS:
            self.assertEqual(answers(handed_in + [call, 0, LARGEST, call, LARGEST, 0]), told + [1, -22, 1, -2])
        for call in OF_TWO:
            self.assertEqual(answers(handed_in + [call, 0, LARGEST, call, LARGEST, 0]), told + [1, -2, 1, -2])
        for call in OF_TWO_AND_LETTERS:
            self.assertEqual(answers(handed_in + [call, 0, 0, LARGEST, call, 0, LARGEST, 0]), told + [1, -22, 1, -2])

    def test_what_is_handed_in_stays(self):
        handed_in = flat(EVERY_CALL)
        answers(handed_in)
        self.assertEqual(handed_in, flat(EVERY_CALL))

    def test_what_is_handed_in_stays_not_changed_for_a_while_either(self):
        handed_in = Unchanging(flat(EVERY_CALL))
        self.assertEqual(answers(handed_in), EVERY_ANSWER)

    def test_what_is_given_back_is_another_list(self):
        handed_in = flat(EVERY_CALL)
        given_back = answers(handed_in)
        self.assertIsNot(given_back, handed_in)
        given_back.clear()
        self.assertEqual(answers(handed_in), EVERY_ANSWER)

    def test_nothing_is_kept(self):
        handed_in = flat(EVERY_CALL)
        self.assertEqual(answers(handed_in), answers(handed_in))
        answers([0, 4, 1, 5])
        self.assertEqual(answers([4, 0, 0]), [1, -11])
        self.assertEqual(answers([0, 4, 4, 0, 0]), [1, 0, 1, -2])

    def test_whole_numbers_in_a_list_and_no_truth_values(self):
        given_back = answers(flat(EVERY_CALL))
        self.assertIs(type(given_back), list)
        for number in given_back:
            self.assertIs(type(number), int)


if __name__ == "__main__":
    unittest.main()

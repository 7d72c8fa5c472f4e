"""follows, enough, least and together, and both, either and not: what is asked or made of claims beside one another."""

import unittest

from tests.helper import BOTH, EITHER, ENOUGH, FOLLOWS, LEAST, LETTER, MOST, NOT, ONE_BY_OTHER, PAIRS, TOGETHER
from tests.helper import about, both_by_words, either_by_words, enough_by_words, follows_by_words, least_by_words
from tests.helper import letters_by_words, never_and_always, not_by_words, one, some_claims, some_pairs
from tests.helper import together_by_words


class Follows(unittest.TestCase):
    def test_worked_by_hand(self):
        self.assertEqual(about(1, [1, 2], (FOLLOWS, 0, 1), (FOLLOWS, 1, 0)), [[0], [0]])
        self.assertEqual(about(2, [8, 10], (FOLLOWS, 0, 1), (FOLLOWS, 1, 0)), [[1], [0]])
        self.assertEqual(about(3, [128, MOST], (FOLLOWS, 0, 1), (FOLLOWS, 1, 0)), [[1], [0]])
        self.assertEqual(about(4, [PAIRS, 34952], (FOLLOWS, 0, 1), (FOLLOWS, 1, 0)), [[0], [1]])

    def test_one_letter_follows_by_the_other(self):
        # Of the first letter the second doesn't follow, but with this claim beside it it does.
        first, second = LETTER[2]
        told = about(2, [first, second, first & ONE_BY_OTHER], (FOLLOWS, 0, 1), (FOLLOWS, 2, 1))
        self.assertEqual(told, [[0], [1]])

    def test_never_and_always(self):
        for m in (1, 2, 3, 4):
            never, always = never_and_always(m)
            for claim in (1, 2, always - 1):
                told = about(m, [never, claim, always], (FOLLOWS, 0, 1), (FOLLOWS, 1, 0), (FOLLOWS, 1, 2),
                             (FOLLOWS, 2, 1), (FOLLOWS, 0, 2), (FOLLOWS, 2, 0), (FOLLOWS, 0, 0), (FOLLOWS, 2, 2))
                self.assertEqual(told, [[1], [0], [1], [0], [1], [0], [1], [1]])

    def test_of_itself(self):
        for m in (1, 2, 3, 4):
            for claim in some_claims(m):
                self.assertEqual(about(m, [claim, claim], (FOLLOWS, 0, 0), (FOLLOWS, 0, 1)), [[1], [1]])

    def test_by_the_words(self):
        for m in (1, 2, 3, 4):
            for first, second in some_pairs(m):
                expected = [int(follows_by_words(m, first, second))]
                self.assertEqual(one(m, [first, second], FOLLOWS, 0, 1), expected, (m, first, second))


def enough_of_each(m, first, second):
    """For each set of letters, rising, whether it is enough."""
    asked = [(ENOUGH, 0, 1, s) for s in range(2 ** m)]
    return [told[0] for told in about(m, [first, second], *asked)]


class Enough(unittest.TestCase):
    def test_worked_by_hand(self):
        self.assertEqual(enough_of_each(1, 2, 2), [0, 1])
        self.assertEqual(enough_of_each(1, 2, 3), [1, 1])
        self.assertEqual(enough_of_each(2, 8, 10), [0, 1, 0, 1])
        self.assertEqual(enough_of_each(2, 8, 14), [0, 1, 1, 1])
        self.assertEqual(enough_of_each(2, 10, 8), [0, 0, 0, 0])
        self.assertEqual(enough_of_each(3, 128, MOST), [0, 0, 0, 1, 0, 1, 1, 1])
        self.assertEqual(enough_of_each(4, 32768, PAIRS), [0, 0, 0, 1, 0, 0, 0, 1, 0, 0, 0, 1, 1, 1, 1, 1])

    def test_one_letter_follows_by_the_other(self):
        self.assertEqual(enough_of_each(2, ONE_BY_OTHER, ONE_BY_OTHER), [0, 0, 0, 1])
        self.assertEqual(enough_of_each(2, ONE_BY_OTHER & 10, 12), [0, 0, 1, 1])

    def test_never_and_always(self):
        for m in (1, 2, 3, 4):
            never, always = never_and_always(m)
            for claim in (never, 1, always):
                self.assertEqual(enough_of_each(m, never, claim), [1] * 2 ** m)
                self.assertEqual(enough_of_each(m, claim, always), [1] * 2 ** m)
            self.assertEqual(enough_of_each(m, always, never), [0] * 2 ** m)
            self.assertEqual(enough_of_each(m, 1, never), [0] * 2 ** m)
            self.assertEqual(enough_of_each(m, 1, 1), [0] * (2 ** m - 1) + [1])

    def test_by_the_words(self):
        for m in (1, 2, 3, 4):
            for first, second in some_pairs(m):
                expected = [int(enough_by_words(m, first, second, s)) for s in range(2 ** m)]
                self.assertEqual(enough_of_each(m, first, second), expected, (m, first, second))


class Least(unittest.TestCase):
    def test_worked_by_hand(self):
        self.assertEqual(one(1, [2, 2], LEAST, 0, 1), [1, 1])
        self.assertEqual(one(2, [8, 10], LEAST, 0, 1), [1, 1])
        self.assertEqual(one(2, [8, 14], LEAST, 0, 1), [2, 1, 2])
        self.assertEqual(one(2, [8, 9], LEAST, 0, 1), [1, 3])
        self.assertEqual(one(3, [128, MOST], LEAST, 0, 1), [3, 3, 5, 6])
        self.assertEqual(one(4, [32768, PAIRS], LEAST, 0, 1), [2, 3, 12])
        self.assertEqual(one(4, [32768, 65534], LEAST, 0, 1), [4, 1, 2, 4, 8])

    def test_any_two_of_four_letters(self):
        two_or_more = sum(2 ** world for world in range(16) if bin(world).count("1") > 1)
        self.assertEqual(one(4, [32768, two_or_more], LEAST, 0, 1), [6, 3, 5, 6, 9, 10, 12])

    def test_rising_by_number_not_by_how_many_letters(self):
        first, second, third = LETTER[3]
        self.assertEqual(one(3, [128, first & second | third], LEAST, 0, 1), [2, 3, 4])
        self.assertEqual(one(3, [128, first | second & third], LEAST, 0, 1), [2, 1, 6])

    def test_follows_by_nothing_at_all(self):
        for m in (1, 2, 3, 4):
            never, always = never_and_always(m)
            for claim in (never, 1, 2, always - 1, always):
                told = about(m, [never, claim, always], (LEAST, 0, 1), (LEAST, 1, 2), (LEAST, 0, 2), (LEAST, 2, 2))
                self.assertEqual(told, [[1, 0]] * 4)

    def test_does_not_follow(self):
        for m in (1, 2, 3, 4):
            never, always = never_and_always(m)
            told = about(m, [never, 1, 2, always], (LEAST, 1, 0), (LEAST, 1, 2), (LEAST, 2, 1), (LEAST, 3, 0),
                         (LEAST, 3, 1), (LEAST, 3, 2))
            self.assertEqual(told, [[-33]] * 6)

    def test_of_itself_those_on_which_it_depends(self):
        for m in (1, 2, 3, 4):
            for claim in some_claims(m):
                needed = sum(2 ** letter for letter in letters_by_words(m, claim))
                told = about(m, [claim, claim], (LEAST, 0, 0), (LEAST, 0, 1))
                self.assertEqual(told, [[1, needed]] * 2, (m, claim))

    def test_by_the_words(self):
        for m in (1, 2, 3, 4):
            for first, second in some_pairs(m):
                expected = [-33]
                if follows_by_words(m, first, second):
                    sets = least_by_words(m, first, second)
                    expected = [len(sets)] + sets
                self.assertEqual(one(m, [first, second], LEAST, 0, 1), expected, (m, first, second))


def together_of_each(m, first, second):
    """For each set of letters, rising, whether they are forgotten of both as of each."""
    asked = [(TOGETHER, 0, 1, s) for s in range(2 ** m)]
    return [told[0] for told in about(m, [first, second], *asked)]


class Together(unittest.TestCase):
    def test_a_letter_that_is_so_and_is_not(self):
        for m in (1, 2, 3, 4):
            for letter, claim in enumerate(LETTER[m]):
                expected = [0 if s & 2 ** letter else 1 for s in range(2 ** m)]
                self.assertEqual(together_of_each(m, claim, not_by_words(m, claim)), expected)

    def test_worked_by_hand(self):
        self.assertEqual(together_of_each(2, 10, 12), [1, 1, 1, 1])
        # The first letter is as the second, and that one as the third: only the second is in both.
        self.assertEqual(together_of_each(3, 153, 195), [1, 1, 0, 1, 1, 1, 1, 1])
        self.assertEqual(about(4, [PAIRS, 43690, 21845], (TOGETHER, 0, 1, 1), (TOGETHER, 0, 2, 1)), [[1], [0]])

    def test_with_itself(self):
        for m in (1, 2, 3, 4):
            for claim in some_claims(m)[:20]:
                asked = [(TOGETHER, 0, 0, s) for s in range(2 ** m)]
                self.assertEqual(about(m, [claim], *asked), [[1]] * 2 ** m)

    def test_never_and_always(self):
        for m in (1, 2, 3, 4):
            never, always = never_and_always(m)
            for claim in (never, 1, 2, always):
                self.assertEqual(together_of_each(m, never, claim), [1] * 2 ** m)
                self.assertEqual(together_of_each(m, claim, always), [1] * 2 ** m)

    def test_by_the_words(self):
        for m in (1, 2, 3, 4):
            for first, second in some_pairs(m):
                expected = [int(together_by_words(m, first, second, s)) for s in range(2 ** m)]
                self.assertEqual(together_of_each(m, first, second), expected, (m, first, second))


class BothEitherNot(unittest.TestCase):
    def test_worked_by_hand(self):
        asked = (BOTH, 0, 1), (EITHER, 0, 1), (NOT, 0), (NOT, 1)
        self.assertEqual(about(1, [1, 2], *asked), [[0], [3], [2], [1]])
        self.assertEqual(about(2, [10, 12], *asked), [[8], [14], [5], [3]])
        self.assertEqual(about(2, [ONE_BY_OTHER, 10], *asked), [[8], [15], [2], [5]])
        self.assertEqual(about(3, [MOST, 170], *asked), [[168], [234], [23], [85]])
        self.assertEqual(about(4, [PAIRS, 43690], *asked), [[43144], [64170], [1911], [21845]])

    def test_never_and_always(self):
        asked = (BOTH, 0, 1), (BOTH, 1, 2), (EITHER, 0, 1), (EITHER, 1, 2), (NOT, 0), (NOT, 2)
        for m in (1, 2, 3, 4):
            never, always = never_and_always(m)
            for claim in (1, 2, always - 1):
                told = about(m, [never, claim, always], *asked)
                self.assertEqual(told, [[never], [claim], [claim], [always], [always], [never]])

    def test_with_itself(self):
        for m in (1, 2, 3, 4):
            for claim in some_claims(m)[:20]:
                told = about(m, [claim, claim], (BOTH, 0, 0), (BOTH, 0, 1), (EITHER, 0, 0), (EITHER, 1, 0))
                self.assertEqual(told, [[claim]] * 4)

    def test_by_the_words(self):
        for m in (1, 2, 3, 4):
            for first, second in some_pairs(m):
                told = about(m, [first, second], (BOTH, 0, 1), (BOTH, 1, 0), (EITHER, 0, 1), (EITHER, 1, 0), (NOT, 0))
                both, either = [both_by_words(m, first, second)], [either_by_words(m, first, second)]
                self.assertEqual(told, [both, both, either, either, [not_by_words(m, first)]], (m, first, second))


if __name__ == "__main__":
    unittest.main()

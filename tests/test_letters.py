"""forget, keep, under, letters, without, says, alike and more: what a claim says without some letters."""

import unittest

from tests.helper import ALIKE, FORGET, KEEP, LETTER, LETTERS, MORE, MOST, ONE_BY_OTHER, PAIRS, SAYS, UNDER, WITHOUT
from tests.helper import about, follows_by_words, forgotten_by_words, kept_by_words, letters_by_words, never_and_always
from tests.helper import one, some_claims, some_pairs, under_by_words


class Forget(unittest.TestCase):
    def test_worked_by_hand(self):
        self.assertEqual(one(1, [2], FORGET, 0, 1), [3])
        self.assertEqual(one(2, [8], FORGET, 0, 1), [12])
        self.assertEqual(one(2, [8], FORGET, 0, 2), [10])
        self.assertEqual(one(2, [13], FORGET, 0, 1), [15])
        self.assertEqual(one(3, [MOST], FORGET, 0, 1), [252])
        self.assertEqual(one(3, [128], FORGET, 0, 5), [204])
        self.assertEqual(one(4, [PAIRS], FORGET, 0, 1), [64716])
        self.assertEqual(one(4, [PAIRS], FORGET, 0, 5), [65484])

    def test_none_and_all(self):
        for m in (1, 2, 3, 4):
            never, always = never_and_always(m)
            for claim in (1, 2, always - 1):
                self.assertEqual(about(m, [claim], (FORGET, 0, 0), (FORGET, 0, 2 ** m - 1)), [[claim], [always]])
            self.assertEqual(about(m, [never], (FORGET, 0, 0), (FORGET, 0, 2 ** m - 1)), [[never], [never]])

    def test_by_the_words(self):
        for m in (1, 2, 3, 4):
            for claim in some_claims(m):
                asked = [(FORGET, 0, s) for s in range(2 ** m)]
                expected = [[forgotten_by_words(m, claim, s)] for s in range(2 ** m)]
                self.assertEqual(about(m, [claim], *asked), expected, (m, claim))


class Under(unittest.TestCase):
    def test_worked_by_hand(self):
        self.assertEqual(one(1, [2], UNDER, 0, 1), [0])
        self.assertEqual(one(2, [8], UNDER, 0, 1), [0])
        self.assertEqual(one(2, [14], UNDER, 0, 1), [12])
        self.assertEqual(one(2, [13], UNDER, 0, 1), [12])
        self.assertEqual(one(2, [13], UNDER, 0, 2), [5])
        self.assertEqual(one(3, [MOST], UNDER, 0, 1), [192])
        self.assertEqual(one(4, [PAIRS], UNDER, 0, 1), [61440])
        self.assertEqual(one(4, [PAIRS], UNDER, 0, 5), [0])

    def test_none_and_all(self):
        for m in (1, 2, 3, 4):
            never, always = never_and_always(m)
            for claim in (1, 2, always - 1):
                self.assertEqual(about(m, [claim], (UNDER, 0, 0), (UNDER, 0, 2 ** m - 1)), [[claim], [never]])
            self.assertEqual(about(m, [always], (UNDER, 0, 0), (UNDER, 0, 2 ** m - 1)), [[always], [always]])

    def test_by_the_words(self):
        for m in (1, 2, 3, 4):
            for claim in some_claims(m):
                asked = [(UNDER, 0, s) for s in range(2 ** m)]
                expected = [[under_by_words(m, claim, s)] for s in range(2 ** m)]
                self.assertEqual(about(m, [claim], *asked), expected, (m, claim))


class Keep(unittest.TestCase):
    def test_worked_by_hand(self):
        self.assertEqual(about(1, [2], (KEEP, 0, 0), (KEEP, 0, 1)), [[3], [2]])
        self.assertEqual(about(2, [8], (KEEP, 0, 1), (KEEP, 0, 2)), [[10], [12]])
        self.assertEqual(about(3, [128], (KEEP, 0, 1), (KEEP, 0, 6)), [[170], [192]])
        self.assertEqual(about(3, [MOST], (KEEP, 0, 1), (KEEP, 0, 3)), [[255], [238]])
        self.assertEqual(about(4, [PAIRS], (KEEP, 0, 14), (KEEP, 0, 10)), [[64716], [65484]])

    def test_none_and_all(self):
        for m in (1, 2, 3, 4):
            never, always = never_and_always(m)
            for claim in (1, 2, always):
                self.assertEqual(about(m, [claim], (KEEP, 0, 0), (KEEP, 0, 2 ** m - 1)), [[always], [claim]])
            self.assertEqual(about(m, [never], (KEEP, 0, 0), (KEEP, 0, 2 ** m - 1)), [[never], [never]])

    def test_by_the_words(self):
        for m in (1, 2, 3, 4):
            for claim in some_claims(m):
                asked = [(KEEP, 0, s) for s in range(2 ** m)]
                expected = [[kept_by_words(m, claim, s)] for s in range(2 ** m)]
                self.assertEqual(about(m, [claim], *asked), expected, (m, claim))


class Letters(unittest.TestCase):
    def test_each_letter_depends_on_itself(self):
        for m in (1, 2, 3, 4):
            for letter, claim in enumerate(LETTER[m]):
                self.assertEqual(one(m, [claim], LETTERS, 0), [1, letter])

    def test_none_at_all(self):
        for m in (1, 2, 3, 4):
            for claim in never_and_always(m):
                self.assertEqual(one(m, [claim], LETTERS, 0), [0])

    def test_some_and_all_rising(self):
        self.assertEqual(one(2, [13], LETTERS, 0), [2, 0, 1])
        self.assertEqual(one(3, [170 & 240], LETTERS, 0), [2, 0, 2])
        self.assertEqual(one(3, [MOST], LETTERS, 0), [3, 0, 1, 2])
        self.assertEqual(one(4, [52428 ^ 65280], LETTERS, 0), [2, 1, 3])
        self.assertEqual(one(4, [PAIRS], LETTERS, 0), [4, 0, 1, 2, 3])

    def test_by_the_words(self):
        for m in (1, 2, 3, 4):
            for claim in some_claims(m):
                letters = letters_by_words(m, claim)
                self.assertEqual(one(m, [claim], LETTERS, 0), [len(letters)] + letters, (m, claim))


class Without(unittest.TestCase):
    def test_a_letter_and_the_others(self):
        for m in (1, 2, 3, 4):
            for letter, claim in enumerate(LETTER[m]):
                others = 2 ** m - 1 - 2 ** letter
                self.assertEqual(
                    about(m, [claim], (WITHOUT, 0, 0), (WITHOUT, 0, others), (WITHOUT, 0, 2 ** letter),
                          (WITHOUT, 0, 2 ** m - 1)),
                    [[1], [1], [0], [0]],
                )

    def test_never_and_always(self):
        for m in (1, 2, 3, 4):
            for claim in never_and_always(m):
                asked = [(WITHOUT, 0, s) for s in range(2 ** m)]
                self.assertEqual(about(m, [claim], *asked), [[1]] * 2 ** m)

    def test_just_if_it_depends_on_none_of_them(self):
        for m in (1, 2, 3, 4):
            for claim in some_claims(m):
                needed = sum(2 ** letter for letter in letters_by_words(m, claim))
                asked = [(WITHOUT, 0, s) for s in range(2 ** m)]
                expected = [[1 if s & needed == 0 else 0] for s in range(2 ** m)]
                self.assertEqual(about(m, [claim], *asked), expected, (m, claim))


class Says(unittest.TestCase):
    def test_one_letter_follows_by_the_other(self):
        # It says nothing of either alone, but something of both.
        asked = [(SAYS, 0, s) for s in range(4)]
        self.assertEqual(about(2, [ONE_BY_OTHER], *asked), [[0], [0], [0], [1]])

    def test_worked_by_hand(self):
        self.assertEqual(about(1, [2], (SAYS, 0, 0), (SAYS, 0, 1)), [[0], [1]])
        self.assertEqual(about(2, [8], (SAYS, 0, 1), (SAYS, 0, 2)), [[1], [1]])
        self.assertEqual(about(3, [MOST], (SAYS, 0, 1), (SAYS, 0, 3)), [[0], [1]])
        self.assertEqual(about(4, [PAIRS], (SAYS, 0, 3), (SAYS, 0, 5)), [[0], [1]])

    def test_never_and_always(self):
        for m in (1, 2, 3, 4):
            never, always = never_and_always(m)
            asked = [(SAYS, 0, s) for s in range(2 ** m)]
            self.assertEqual(about(m, [always], *asked), [[0]] * 2 ** m)
            self.assertEqual(about(m, [never], *asked), [[1]] * 2 ** m)

    def test_by_the_words(self):
        for m in (1, 2, 3, 4):
            always = 2 ** 2 ** m - 1
            for claim in some_claims(m):
                asked = [(SAYS, 0, s) for s in range(2 ** m)]
                expected = [[0 if kept_by_words(m, claim, s) == always else 1] for s in range(2 ** m)]
                self.assertEqual(about(m, [claim], *asked), expected, (m, claim))


class AlikeAndMore(unittest.TestCase):
    def test_worked_by_hand(self):
        # Both letters, and the first alone: of the first they say the same, of the second they don't.
        self.assertEqual(
            about(2, [8, 10], (ALIKE, 0, 1, 0), (ALIKE, 0, 1, 1), (ALIKE, 0, 1, 2), (ALIKE, 0, 1, 3)),
            [[1], [1], [0], [0]],
        )
        self.assertEqual(
            about(2, [8, 10], (MORE, 0, 1, 2), (MORE, 1, 0, 2), (MORE, 1, 0, 1), (MORE, 1, 0, 3)),
            [[1], [0], [1], [0]],
        )
        self.assertEqual(about(1, [1, 2], (ALIKE, 0, 1, 0), (ALIKE, 0, 1, 1)), [[1], [0]])
        self.assertEqual(about(1, [1, 2], (MORE, 0, 1, 0), (MORE, 0, 1, 1)), [[1], [0]])
        self.assertEqual(about(3, [128, MOST], (ALIKE, 0, 1, 1), (MORE, 0, 1, 1), (MORE, 1, 0, 1)), [[0], [1], [0]])
        self.assertEqual(about(4, [PAIRS, 63488], (ALIKE, 0, 1, 12), (MORE, 1, 0, 15)), [[0], [1]])

    def test_never_and_always(self):
        for m in (1, 2, 3, 4):
            claims = never_and_always(m)
            for s in range(2 ** m):
                self.assertEqual(
                    about(m, claims, (ALIKE, 0, 1, s), (MORE, 0, 1, s), (MORE, 1, 0, s)),
                    [[0], [1], [0]],
                )

    def test_with_itself(self):
        for m in (1, 2, 3, 4):
            for claim in some_claims(m)[:20]:
                asked = [(call, 0, 0, s) for call in (ALIKE, MORE) for s in range(2 ** m)]
                self.assertEqual(about(m, [claim], *asked), [[1]] * 2 ** (m + 1))

    def test_by_the_words(self):
        for m in (1, 2, 3, 4):
            for first, second in some_pairs(m):
                asked, expected = [], []
                for s in range(2 ** m):
                    says = kept_by_words(m, first, s)
                    other_says = kept_by_words(m, second, s)
                    asked += [(ALIKE, 0, 1, s), (MORE, 0, 1, s)]
                    expected += [[int(says == other_says)], [int(follows_by_words(m, says, other_says))]]
                self.assertEqual(about(m, [first, second], *asked), expected, (m, first, second))


if __name__ == "__main__":
    unittest.main()

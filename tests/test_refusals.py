"""The refusals of the calls that ask about claims, in their order; and that asking changes nothing."""

import unittest

from tests.helper import LARGEST, LEAST, LOOK, OF_ONE, OF_ONE_AND_LETTERS, OF_TWO, OF_TWO_AND_LETTERS, STATE
from tests.helper import about, one


class OfOneClaim(unittest.TestCase):
    def test_no_such_claim(self):
        for m in (1, 2, 3, 4):
            for call in OF_ONE:
                self.assertEqual(one(m, [], call, 0), [-2])
                self.assertEqual(about(m, [1], (call, 1), (call, LARGEST)), [[-2], [-2]])

    def test_the_last_claim_is_one(self):
        for m in (1, 2, 3, 4):
            for call in OF_ONE:
                told = about(m, [0, 0, 0, 1], (call, 3), (call, 4))
                self.assertGreaterEqual(told[0][0], 0)
                self.assertEqual(told[1], [-2])


class OfOneClaimAndLetters(unittest.TestCase):
    def test_no_such_claim(self):
        for m in (1, 2, 3, 4):
            for call in OF_ONE_AND_LETTERS:
                self.assertEqual(one(m, [], call, 0, 0), [-2])
                self.assertEqual(about(m, [1], (call, 1, 0), (call, LARGEST, 0)), [[-2], [-2]])

    def test_no_set_of_letters(self):
        for m in (1, 2, 3, 4):
            for call in OF_ONE_AND_LETTERS:
                self.assertEqual(about(m, [1], (call, 0, 2 ** m), (call, 0, LARGEST)), [[-22], [-22]])

    def test_the_largest_set_is_one(self):
        for m in (1, 2, 3, 4):
            for call in OF_ONE_AND_LETTERS:
                self.assertGreaterEqual(one(m, [1], call, 0, 2 ** m - 1)[0], 0)

    def test_no_such_claim_comes_first(self):
        for m in (1, 2, 3, 4):
            for call in OF_ONE_AND_LETTERS:
                self.assertEqual(about(m, [1], (call, 1, 2 ** m), (call, LARGEST, LARGEST)), [[-2], [-2]])


class OfTwoClaims(unittest.TestCase):
    def test_no_such_claim(self):
        for m in (1, 2, 3, 4):
            for call in OF_TWO:
                self.assertEqual(one(m, [], call, 0, 0), [-2])
                self.assertEqual(
                    about(m, [1], (call, 1, 0), (call, 0, 1), (call, 1, 1), (call, LARGEST, 0), (call, 0, LARGEST),
                          (call, LARGEST, LARGEST)),
                    [[-2]] * 6,
                )

    def test_the_last_claim_is_one(self):
        for m in (1, 2, 3, 4):
            for call in OF_TWO:
                told = about(m, [0, 0, 0, 0], (call, 3, 0), (call, 0, 3), (call, 4, 3), (call, 3, 4))
                self.assertGreaterEqual(min(told[0][0], told[1][0]), 0)
                self.assertEqual(told[2:], [[-2], [-2]])

    def test_it_does_not_follow(self):
        for m in (1, 2, 3, 4):
            self.assertEqual(
                about(m, [1, 2, 3], (LEAST, 0, 1), (LEAST, 1, 0), (LEAST, 2, 0), (LEAST, 2, 3), (LEAST, 3, 2)),
                [[-33], [-33], [-33], [-2], [-2]],
            )


class OfTwoClaimsAndLetters(unittest.TestCase):
    def test_no_such_claim(self):
        for m in (1, 2, 3, 4):
            for call in OF_TWO_AND_LETTERS:
                self.assertEqual(one(m, [], call, 0, 0, 0), [-2])
                self.assertEqual(
                    about(m, [1], (call, 1, 0, 0), (call, 0, 1, 0), (call, 1, 1, 0), (call, LARGEST, 0, 0),
                          (call, 0, LARGEST, 0)),
                    [[-2]] * 5,
                )

    def test_no_set_of_letters(self):
        for m in (1, 2, 3, 4):
            for call in OF_TWO_AND_LETTERS:
                told = about(m, [1, 2], (call, 0, 1, 2 ** m - 1), (call, 0, 1, 2 ** m), (call, 1, 0, LARGEST))
                self.assertIn(told[0], ([0], [1]))
                self.assertEqual(told[1:], [[-22], [-22]])

    def test_no_such_claim_comes_first(self):
        for m in (1, 2, 3, 4):
            for call in OF_TWO_AND_LETTERS:
                self.assertEqual(
                    about(m, [1], (call, 1, 0, 2 ** m), (call, 0, 1, 2 ** m), (call, 0, LARGEST, LARGEST),
                          (call, LARGEST, 0, LARGEST)),
                    [[-2]] * 4,
                )


class NothingChanges(unittest.TestCase):
    SEEN = [(LOOK, 0), (LOOK, 1), (LOOK, 2), (STATE,)]

    def test_asking_leaves_the_claims(self):
        asked = [(call, 0) for call in OF_ONE] + [(call, 0, 1) for call in OF_ONE_AND_LETTERS + OF_TWO]
        asked += [(call, 0, 1, 1) for call in OF_TWO_AND_LETTERS] + [(STATE,)]
        for m in (1, 2, 3, 4):
            for call in asked:
                told = about(m, [2, 3], call, *self.SEEN)
                self.assertGreaterEqual(told[0][0], 0)
                self.assertEqual(told[1:], [[2], [3], [-2], [m, 2]])

    def test_refused_asking_leaves_the_claims(self):
        refused = [(call, 2) for call in OF_ONE]
        refused += [(call, 0, 16) for call in OF_ONE_AND_LETTERS] + [(call, 2, 0) for call in OF_ONE_AND_LETTERS]
        refused += [(call, 0, 2) for call in OF_TWO] + [(call, 2, 0) for call in OF_TWO] + [(LEAST, 1, 0)]
        refused += [(call, 0, 1, 16) for call in OF_TWO_AND_LETTERS] + [(call, 0, 2, 0) for call in OF_TWO_AND_LETTERS]
        for m in (1, 2, 3, 4):
            for call in refused:
                told = about(m, [2, 3], call, *self.SEEN)
                self.assertLess(told[0][0], 0)
                self.assertEqual(told[1:], [[2], [3], [-2], [m, 2]])


if __name__ == "__main__":
    unittest.main()

"""The refusals of the calls that ask about claims, in their order; and that asking changes nothing."""

import unittest

from tests.helper import ALIKE, FORGET, KEEP, LARGEST, LETTERS, MORE, SAYS, UNDER, WITHOUT
from tests.helper import about, one

OF_ONE = (FORGET, KEEP, UNDER, WITHOUT, SAYS)
OF_TWO = (ALIKE, MORE)


class OfOneClaim(unittest.TestCase):
    def test_no_such_claim(self):
        for m in (1, 2, 3, 4):
            for call in OF_ONE:
                self.assertEqual(one(m, [], call, 0, 0), [-2])
                self.assertEqual(about(m, [1], (call, 1, 0), (call, LARGEST, 0)), [[-2], [-2]])

    def test_no_set_of_letters(self):
        for m in (1, 2, 3, 4):
            for call in OF_ONE:
                self.assertEqual(about(m, [1], (call, 0, 2 ** m), (call, 0, LARGEST)), [[-22], [-22]])

    def test_the_largest_set_is_one(self):
        for m in (1, 2, 3, 4):
            for call in OF_ONE:
                self.assertGreaterEqual(one(m, [1], call, 0, 2 ** m - 1)[0], 0)

    def test_no_such_claim_comes_first(self):
        for m in (1, 2, 3, 4):
            for call in OF_ONE:
                self.assertEqual(about(m, [1], (call, 1, 2 ** m), (call, LARGEST, LARGEST)), [[-2], [-2]])

    def test_letters(self):
        for m in (1, 2, 3, 4):
            self.assertEqual(one(m, [], LETTERS, 0), [-2])
            self.assertEqual(
                about(m, [0, 0, 0, 0], (LETTERS, 3), (LETTERS, 4), (LETTERS, LARGEST)),
                [[0], [-2], [-2]],
            )


class OfTwoClaims(unittest.TestCase):
    def test_no_such_claim(self):
        for m in (1, 2, 3, 4):
            for call in OF_TWO:
                self.assertEqual(one(m, [], call, 0, 0, 0), [-2])
                self.assertEqual(
                    about(m, [1], (call, 1, 0, 0), (call, 0, 1, 0), (call, 1, 1, 0), (call, LARGEST, 0, 0),
                          (call, 0, LARGEST, 0)),
                    [[-2]] * 5,
                )

    def test_no_set_of_letters(self):
        for m in (1, 2, 3, 4):
            for call in OF_TWO:
                self.assertEqual(
                    about(m, [1, 2], (call, 0, 1, 2 ** m - 1), (call, 0, 1, 2 ** m), (call, 1, 0, LARGEST))[1:],
                    [[-22], [-22]],
                )

    def test_no_such_claim_comes_first(self):
        for m in (1, 2, 3, 4):
            for call in OF_TWO:
                self.assertEqual(
                    about(m, [1], (call, 1, 0, 2 ** m), (call, 0, 1, 2 ** m), (call, 0, LARGEST, LARGEST)),
                    [[-2]] * 3,
                )


class NothingChanges(unittest.TestCase):
    def test_asking_leaves_the_claims(self):
        asked = [(call, 0, 1) for call in OF_ONE] + [(call, 0, 1, 1) for call in OF_TWO] + [(LETTERS, 0)]
        seen = [(FORGET, 0, 0), (FORGET, 1, 0), (FORGET, 2, 0)]
        for m in (1, 2, 3, 4):
            for call in asked:
                self.assertEqual(about(m, [2, 1], call, *seen)[1:], [[2], [1], [-2]])

    def test_refused_asking_leaves_the_claims(self):
        refused = [(call, 0, 16) for call in OF_ONE] + [(call, 2, 0) for call in OF_ONE]
        refused += [(call, 0, 1, 16) for call in OF_TWO] + [(call, 0, 2, 0) for call in OF_TWO] + [(LETTERS, 2)]
        seen = [(FORGET, 0, 0), (FORGET, 1, 0), (FORGET, 2, 0)]
        for m in (1, 2, 3, 4):
            for call in refused:
                told = about(m, [2, 1], call, *seen)
                self.assertLess(told[0][0], 0)
                self.assertEqual(told[1:], [[2], [1], [-2]])


if __name__ == "__main__":
    unittest.main()

"""Point 4, what holds, as far as the calls that are here show it."""

import unittest

from tests.helper import FORGET, UNDER
from tests.helper import about, one


def untold_by(m, s):
    """All claims that can be told without s, found by asking."""
    return [claim for claim in range(2 ** 2 ** m) if one(m, [claim], FORGET, 0, s) == [claim]]


def after(m, claim, *forgotten):
    for s in forgotten:
        claim = one(m, [claim], FORGET, 0, s)[0]
    return claim


class WhatHolds(unittest.TestCase):
    def test_strongest_that_follows_and_weakest_of_which_it_follows(self):
        for m in (1, 2):
            for s in range(2 ** m):
                without = untold_by(m, s)
                for claim in range(2 ** 2 ** m):
                    left, below = [told[0] for told in about(m, [claim], (FORGET, 0, s), (UNDER, 0, s))]
                    self.assertIn(left, without)
                    self.assertIn(below, without)
                    for other in without:
                        self.assertEqual(claim & ~other == 0, left & ~other == 0)
                        self.assertEqual(other & ~claim == 0, other & ~below == 0)

    def test_one_after_another_in_whatever_order(self):
        for claim in range(3, 65536, 4111):
            for first in (1, 2, 6):
                for second in (4, 9, 12):
                    at_once = after(4, claim, first | second)
                    self.assertEqual(after(4, claim, first, second), at_once)
                    self.assertEqual(after(4, claim, second, first), at_once)

    def test_of_either_what_is_left_is_eithers(self):
        for first in range(0, 256, 13):
            for second in range(5, 256, 17):
                for s in range(8):
                    self.assertEqual(after(3, first | second, s), after(3, first, s) | after(3, second, s))

    def test_of_both_where_one_does_not_need_the_letters(self):
        for first in range(0, 256, 13):
            for s in range(8):
                second = after(3, 37, s)
                self.assertEqual(after(3, first & second, s), after(3, first, s) & second)


if __name__ == "__main__":
    unittest.main()

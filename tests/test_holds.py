"""Point 4, what holds, over many claims and sets of letters: asked of the program alone."""

import unittest

from tests.helper import BOTH, EITHER, ENOUGH, FOLLOWS, FORGET, LEAST, LETTERS, TOGETHER, UNDER, WITHOUT
from tests.helper import about, one, some_claims, some_pairs


def forgotten(m, claim, *sets):
    """What the claim becomes, the letters of one set after another forgotten."""
    for s in sets:
        claim = one(m, [claim], FORGET, 0, s)[0]
    return claim


def follows(m, first, second):
    return one(m, [first, second], FOLLOWS, 0, 1) == [1]


def letters_of(m, claim):
    """The letters on which the claim depends, as a set."""
    return sum(2 ** letter for letter in one(m, [claim], LETTERS, 0)[1:])


def without(m, s):
    """All claims that can be told without s."""
    return [claim for claim in range(2 ** 2 ** m) if one(m, [claim], WITHOUT, 0, s) == [1]]


def made_without(m, s):
    """The same claims, made of what single worlds become: with four letters there are too many to ask each."""
    made = {0}
    for part in {forgotten(m, 2 ** world, s) for world in range(2 ** m)}:
        made |= {claim | part for claim in made}
    return sorted(made)


class StrongestAndWeakest(unittest.TestCase):
    def check(self, m, claims, sets):
        for s in sets:
            others = made_without(m, s)
            for claim in claims:
                left, below = [told[0] for told in about(m, [claim], (FORGET, 0, s), (UNDER, 0, s))]
                self.assertIn(left, others)
                self.assertIn(below, others)
                asked = (FOLLOWS, 0, 3), (FOLLOWS, 1, 3), (FOLLOWS, 3, 0), (FOLLOWS, 3, 2)
                for other in others:
                    told = about(m, [claim, left, below, other], *asked)
                    self.assertEqual(told[0], told[1], (m, claim, s, other))
                    self.assertEqual(told[2], told[3], (m, claim, s, other))

    def test_one_letter_and_two(self):
        self.check(1, range(4), range(2))
        self.check(2, range(16), range(4))

    def test_three_letters(self):
        self.check(3, (0, 1, 105, 150, 232, 248, 255), range(8))

    def test_four_letters(self):
        self.check(4, (0, 1, 27030, 43690, 63624, 65535), range(1, 16))

    def test_the_claims_they_are_held_against_are_all(self):
        for m in (1, 2, 3):
            for s in range(2 ** m):
                self.assertEqual(made_without(m, s), without(m, s))


class OneAfterAnother(unittest.TestCase):
    def test_in_whatever_order(self):
        for m in (1, 2, 3, 4):
            for claim in some_claims(m)[::7]:
                for first in range(2 ** m):
                    second = (first * 5 + 3) % 2 ** m
                    at_once = forgotten(m, claim, first | second)
                    self.assertEqual(forgotten(m, claim, first, second), at_once)
                    self.assertEqual(forgotten(m, claim, second, first), at_once)

    def test_letter_by_letter(self):
        for claim in some_claims(4)[::5]:
            at_once = forgotten(4, claim, 15)
            for order in ((1, 2, 4, 8), (8, 4, 2, 1), (4, 1, 8, 2)):
                self.assertEqual(forgotten(4, claim, *order), at_once)


class EitherAndBoth(unittest.TestCase):
    def test_of_either_what_is_left_is_eithers(self):
        for m in (1, 2, 3, 4):
            for first, second in some_pairs(m):
                either = one(m, [first, second], EITHER, 0, 1)[0]
                for s in range(2 ** m):
                    left = [told[0] for told in about(m, [first, second, either], *[(FORGET, i, s) for i in range(3)])]
                    self.assertEqual(one(m, left[:2], EITHER, 0, 1), [left[2]], (m, first, second, s))

    def test_of_both_where_one_does_not_need_the_letters(self):
        seen = {0: 0, 1: 0}
        for m in (1, 2, 3, 4):
            for first, second in some_pairs(m):
                for s in range(2 ** m):
                    told = about(m, [first, second], (WITHOUT, 0, s), (WITHOUT, 1, s), (TOGETHER, 0, 1, s),
                                 (TOGETHER, 1, 0, s), (BOTH, 0, 1), (FORGET, 0, s), (FORGET, 1, s))
                    first_does_not, second_does_not, together, turned, both, left, other_left = flat_ones(told)
                    self.assertEqual(together, turned)
                    self.assertEqual(together == 1, forgotten(m, both, s) == one(m, [left, other_left], BOTH, 0, 1)[0])
                    if first_does_not == 1 or second_does_not == 1:
                        self.assertEqual(together, 1, (m, first, second, s))
                    else:
                        seen[together] += 1
        self.assertGreater(seen[0], 0)
        self.assertGreater(seen[1], 0)

    def test_where_one_has_its_letters_forgotten_already(self):
        for m in (1, 2, 3, 4):
            for first, second in some_pairs(m)[::3]:
                for s in range(2 ** m):
                    left = forgotten(m, second, s)
                    self.assertEqual(about(m, [first, left], (TOGETHER, 0, 1, s), (TOGETHER, 1, 0, s)), [[1], [1]])


def flat_ones(told):
    return [answer[0] for answer in told]


class WithoutAndLetters(unittest.TestCase):
    def test_just_if_it_depends_on_none_of_them(self):
        for m in (1, 2, 3, 4):
            for claim in some_claims(m):
                needed = letters_of(m, claim)
                asked = [(WITHOUT, 0, s) for s in range(2 ** m)]
                expected = [[0 if s & needed else 1] for s in range(2 ** m)]
                self.assertEqual(about(m, [claim], *asked), expected, (m, claim))


class EnoughAndLeast(unittest.TestCase):
    def test_the_letters_on_which_both_depend_are_enough(self):
        following = 0
        for m in (1, 2, 3, 4):
            for first, second in some_pairs(m):
                shared = letters_of(m, first) & letters_of(m, second)
                told = about(m, [first, second], (FOLLOWS, 0, 1), (ENOUGH, 0, 1, shared), (ENOUGH, 0, 1, 2 ** m - 1))
                self.assertEqual(told, [told[0]] * 3, (m, first, second))
                following += told[0][0]
        self.assertGreater(following, 0)

    def test_shared_letters_that_are_not_all(self):
        # Each first can do with the letters 0 and 1, each second with 1 and 2: they share the middle one at most.
        for first in without(3, 4):
            for second in without(3, 1):
                if follows(3, first, second):
                    shared = letters_of(3, first) & letters_of(3, second)
                    self.assertIn(shared, (0, 2))
                    self.assertEqual(one(3, [first, second], ENOUGH, 0, 1, shared), [1])

    def test_least_sets(self):
        for m in (1, 2, 3, 4):
            for first, second in some_pairs(m):
                asked = [(ENOUGH, 0, 1, s) for s in range(2 ** m)]
                told = about(m, [first, second], (LEAST, 0, 1), *asked)
                enough = [s for s in range(2 ** m) if told[1 + s] == [1]]
                if not follows(m, first, second):
                    self.assertEqual((told[0], enough), ([-33], []))
                    continue
                least = told[0][1:]
                self.assertEqual(told[0][0], len(least))
                self.assertEqual(least, sorted(set(least)))
                for s in least:
                    self.assertIn(s, enough)
                    for letter in range(m):
                        self.assertFalse(s & 2 ** letter and s - 2 ** letter in enough, (m, first, second, s))
                for s in enough:
                    self.assertTrue(any(s & few == few for few in least), (m, first, second, s))


if __name__ == "__main__":
    unittest.main()

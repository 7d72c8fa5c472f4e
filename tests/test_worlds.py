"""lost, settles and worlds: in which worlds a claim is so."""

import unittest

from tests.helper import LETTER, LOST, MOST, ONE_BY_OTHER, PAIRS, SETTLES, WORLDS
from tests.helper import about, lost_by_words, never_and_always, not_by_words, one, settles_by_words, some_claims
from tests.helper import worlds_by_words


class Lost(unittest.TestCase):
    def test_worked_by_hand(self):
        self.assertEqual(about(1, [2], (LOST, 0, 0), (LOST, 0, 1)), [[0], [1]])
        self.assertEqual(about(2, [8], (LOST, 0, 1), (LOST, 0, 2), (LOST, 0, 3)), [[1], [1], [3]])
        self.assertEqual(about(3, [MOST], (LOST, 0, 1), (LOST, 0, 7)), [[2], [4]])
        self.assertEqual(about(4, [PAIRS], (LOST, 0, 1), (LOST, 0, 5), (LOST, 0, 15)), [[3], [5], [9]])

    def test_one_letter_follows_by_the_other(self):
        asked = [(LOST, 0, s) for s in range(4)]
        self.assertEqual(about(2, [ONE_BY_OTHER], *asked), [[0], [1], [1], [1]])

    def test_none_and_all(self):
        for m in (1, 2, 3, 4):
            for world in range(2 ** m):
                told = about(m, [2 ** world], (LOST, 0, 0), (LOST, 0, 2 ** m - 1))
                self.assertEqual(told, [[0], [2 ** m - 1]])

    def test_never_and_always(self):
        for m in (1, 2, 3, 4):
            for claim in never_and_always(m):
                asked = [(LOST, 0, s) for s in range(2 ** m)]
                self.assertEqual(about(m, [claim], *asked), [[0]] * 2 ** m)

    def test_letters_on_which_it_does_not_depend(self):
        for m in (2, 3, 4):
            for letter, claim in enumerate(LETTER[m]):
                others = 2 ** m - 1 - 2 ** letter
                self.assertEqual(about(m, [claim], (LOST, 0, others), (LOST, 0, 2 ** letter)), [[0], [2 ** (m - 1)]])

    def test_by_the_words(self):
        for m in (1, 2, 3, 4):
            for claim in some_claims(m):
                asked = [(LOST, 0, s) for s in range(2 ** m)]
                expected = [[lost_by_words(m, claim, s)] for s in range(2 ** m)]
                self.assertEqual(about(m, [claim], *asked), expected, (m, claim))


class Settles(unittest.TestCase):
    def test_worked_by_hand(self):
        self.assertEqual(one(2, [8], SETTLES, 0), [2, 1, 1])
        self.assertEqual(one(2, [4], SETTLES, 0), [2, 0, 1])
        self.assertEqual(one(2, [9], SETTLES, 0), [2, 2, 2])
        self.assertEqual(one(3, [MOST], SETTLES, 0), [3, 2, 2, 2])
        self.assertEqual(one(3, [80], SETTLES, 0), [3, 0, 2, 1])
        self.assertEqual(one(4, [PAIRS], SETTLES, 0), [4, 2, 2, 2, 2])
        self.assertEqual(one(4, [2560], SETTLES, 0), [4, 1, 2, 0, 1])

    def test_every_claim_of_one_letter(self):
        told = about(1, [0, 1, 2, 3], (SETTLES, 0), (SETTLES, 1), (SETTLES, 2), (SETTLES, 3))
        self.assertEqual(told, [[1, 1], [1, 0], [1, 1], [1, 2]])

    def test_never_and_always(self):
        for m in (1, 2, 3, 4):
            never, always = never_and_always(m)
            self.assertEqual(one(m, [never], SETTLES, 0), [m] + [1] * m)
            self.assertEqual(one(m, [always], SETTLES, 0), [m] + [2] * m)

    def test_a_letter_that_is_so_and_one_that_is_not(self):
        for m in (1, 2, 3, 4):
            for letter, claim in enumerate(LETTER[m]):
                so, not_so = [2] * m, [2] * m
                so[letter], not_so[letter] = 1, 0
                told = about(m, [claim, not_by_words(m, claim)], (SETTLES, 0), (SETTLES, 1))
                self.assertEqual(told, [[m] + so, [m] + not_so])

    def test_one_letter_follows_by_the_other(self):
        # It settles neither; with the first so both are, and with the second not so neither is.
        told = about(2, [ONE_BY_OTHER, ONE_BY_OTHER & 10, ONE_BY_OTHER & 3], (SETTLES, 0), (SETTLES, 1), (SETTLES, 2))
        self.assertEqual(told, [[2, 2, 2], [2, 1, 1], [2, 0, 0]])

    def test_one_world_settles_all(self):
        for m in (1, 2, 3, 4):
            for world in range(2 ** m):
                so = [world // 2 ** letter % 2 for letter in range(m)]
                self.assertEqual(one(m, [2 ** world], SETTLES, 0), [m] + so)

    def test_by_the_words(self):
        for m in (1, 2, 3, 4):
            for claim in some_claims(m):
                self.assertEqual(one(m, [claim], SETTLES, 0), [m] + settles_by_words(m, claim), (m, claim))


class Worlds(unittest.TestCase):
    def test_worked_by_hand(self):
        self.assertEqual(one(1, [2], WORLDS, 0), [1, 1])
        self.assertEqual(one(2, [ONE_BY_OTHER], WORLDS, 0), [3, 0, 2, 3])
        self.assertEqual(one(3, [MOST], WORLDS, 0), [4, 3, 5, 6, 7])
        self.assertEqual(one(4, [PAIRS], WORLDS, 0), [7, 3, 7, 11, 12, 13, 14, 15])

    def test_never_and_always(self):
        for m in (1, 2, 3, 4):
            never, always = never_and_always(m)
            self.assertEqual(one(m, [never], WORLDS, 0), [0])
            self.assertEqual(one(m, [always], WORLDS, 0), [2 ** m] + list(range(2 ** m)))

    def test_each_world(self):
        for m in (1, 2, 3, 4):
            for world in range(2 ** m):
                self.assertEqual(one(m, [2 ** world], WORLDS, 0), [1, world])

    def test_by_the_words(self):
        for m in (1, 2, 3, 4):
            for claim in some_claims(m):
                worlds = worlds_by_words(m, claim)
                self.assertEqual(one(m, [claim], WORLDS, 0), [len(worlds)] + worlds, (m, claim))


if __name__ == "__main__":
    unittest.main()

"""begin, put, set and drop, look and state: what is here."""

import unittest

from tests.helper import BEGIN, DROP, LARGEST, LOOK, OF_ONE, OF_ONE_AND_LETTERS, OF_TWO, OF_TWO_AND_LETTERS
from tests.helper import PUT, SET, STATE
from tests.helper import about, ask


def look(i):
    return (LOOK, i)


class Begin(unittest.TestCase):
    def test_one_to_four_letters(self):
        for m in (1, 2, 3, 4):
            self.assertEqual(ask((BEGIN, m)), [[0]])

    def test_how_many_letters_it_makes(self):
        for m in (1, 2, 3, 4):
            most = 2 ** 2 ** m
            self.assertEqual(about(m, [], (PUT, most - 1), (PUT, most)), [[0], [-22]])

    def test_wrong_m(self):
        for m in (0, 5, 6, 64, 4294967292, LARGEST):
            self.assertEqual(ask((BEGIN, m)), [[-22]])

    def test_refused_first_begin_leaves_nothing(self):
        for m in (0, 5, LARGEST):
            self.assertEqual(ask((BEGIN, m), (PUT, 0), (BEGIN, 1), (PUT, 0)), [[-22], [-11], [0], [0]])

    def test_refused_later_begin_leaves_what_was_here(self):
        for m in (0, 5, LARGEST):
            self.assertEqual(
                about(2, [9, 14], (BEGIN, m), look(0), look(1), look(2), (PUT, 16), (PUT, 15)),
                [[-22], [9], [14], [-2], [-22], [2]],
            )

    def test_begin_again_takes_the_claims_away(self):
        self.assertEqual(
            about(4, [1, 2, 3, 65535], (BEGIN, 2), look(0), (PUT, 16), (PUT, 15), look(0), look(1)),
            [[0], [-2], [-22], [0], [15], [-2]],
        )

    def test_begin_again_with_as_many_letters(self):
        self.assertEqual(about(1, [3], (BEGIN, 1), (DROP, 0), (PUT, 2)), [[0], [-2], [0]])


class BeforeBegin(unittest.TestCase):
    def test_every_other_call_is_refused(self):
        others = [(PUT, 0), (SET, 0, 0), (DROP, 0), (STATE,)]
        others += [(call, 0) for call in OF_ONE] + [(call, 0, 0) for call in OF_ONE_AND_LETTERS + OF_TWO]
        others += [(call, 0, 0, 0) for call in OF_TWO_AND_LETTERS]
        self.assertEqual(sorted(call[0] for call in others), list(range(1, 24)))
        for call in others:
            self.assertEqual(ask(call), [[-11]])
            beyond = (call[0],) + (LARGEST,) * (len(call) - 1)
            self.assertEqual(ask(beyond), [[-11]])
            self.assertEqual(ask((BEGIN, 5), call), [[-22], [-11]])
        self.assertEqual(ask(*others, (BEGIN, 1), (STATE,), (PUT, 1)), [[-11]] * 23 + [[0], [1, 0], [0]])


class Put(unittest.TestCase):
    def test_numbers_rise_from_nought(self):
        for m in (1, 2, 3, 4):
            self.assertEqual(
                ask((BEGIN, m), (PUT, 3), (PUT, 0), (PUT, 3), (PUT, 1), look(0), look(1), look(2), look(3)),
                [[0], [0], [1], [2], [3], [3], [0], [3], [1]],
            )

    def test_not_a_claim(self):
        for m in (1, 2, 3, 4):
            edge = 2 ** 2 ** m
            self.assertEqual(
                about(m, [1], (PUT, edge), (PUT, LARGEST), look(1), (PUT, edge - 1), look(1)),
                [[-22], [-22], [-2], [1], [edge - 1]],
            )

    def test_too_many(self):
        for m in (1, 2, 3, 4):
            self.assertEqual(
                about(m, [0, 1, 2, 3], (PUT, 0), (PUT, 2 ** 2 ** m - 1), look(0), look(1), look(2), look(3), look(4)),
                [[-28], [-28], [0], [1], [2], [3], [-2]],
            )

    def test_not_a_claim_comes_before_too_many(self):
        for m in (1, 2, 3, 4):
            self.assertEqual(
                about(m, [0, 1, 2, 3], (PUT, 2 ** 2 ** m), (PUT, LARGEST), (PUT, 1)),
                [[-22], [-22], [-28]],
            )

    def test_room_again_after_a_drop(self):
        self.assertEqual(about(1, [0, 1, 2, 3], (PUT, 1), (DROP, 1), (PUT, 1), (PUT, 1)), [[-28], [3], [3], [-28]])


class Set(unittest.TestCase):
    def test_answers_what_it_was(self):
        for m in (1, 2, 3, 4):
            always = 2 ** 2 ** m - 1
            self.assertEqual(
                about(m, [1, 2], (SET, 0, always), (SET, 0, 0), (SET, 1, 1), look(0), look(1), look(2)),
                [[1], [always], [2], [0], [1], [-2]],
            )

    def test_no_such_claim(self):
        for m in (1, 2, 3, 4):
            self.assertEqual(about(m, [], (SET, 0, 1)), [[-2]])
            self.assertEqual(
                about(m, [1, 2], (SET, 2, 0), (SET, LARGEST, 0), look(0), look(1), look(2)),
                [[-2], [-2], [1], [2], [-2]],
            )

    def test_not_a_claim(self):
        for m in (1, 2, 3, 4):
            self.assertEqual(
                about(m, [1, 2], (SET, 0, 2 ** 2 ** m), (SET, 1, LARGEST), look(0), look(1)),
                [[-22], [-22], [1], [2]],
            )

    def test_no_such_claim_comes_first(self):
        for m in (1, 2, 3, 4):
            self.assertEqual(
                about(m, [1], (SET, 1, 2 ** 2 ** m), (SET, LARGEST, LARGEST), look(0)),
                [[-2], [-2], [1]],
            )


class Drop(unittest.TestCase):
    def test_those_behind_are_one_less(self):
        for m in (1, 2, 3, 4):
            self.assertEqual(
                about(m, [3, 0, 1, 2], (DROP, 1), look(0), look(1), look(2), look(3)),
                [[3], [3], [1], [2], [-2]],
            )

    def test_first_and_last(self):
        self.assertEqual(
            about(2, [7, 8, 9], (DROP, 0), look(0), look(1), (DROP, 1), look(0), look(1), (DROP, 0), (DROP, 0)),
            [[2], [8], [9], [1], [8], [-2], [0], [-2]],
        )

    def test_alike_claims_are_dropped_by_number(self):
        self.assertEqual(about(2, [5, 6, 5], (DROP, 2), look(0), look(1), look(2)), [[2], [5], [6], [-2]])

    def test_no_such_claim(self):
        for m in (1, 2, 3, 4):
            self.assertEqual(about(m, [], (DROP, 0)), [[-2]])
            self.assertEqual(
                about(m, [1, 2], (DROP, 2), (DROP, LARGEST), look(0), look(1), (PUT, 0)),
                [[-2], [-2], [1], [2], [2]],
            )


class Look(unittest.TestCase):
    def test_each_claim_by_its_number(self):
        for m in (1, 2, 3, 4):
            always = 2 ** 2 ** m - 1
            self.assertEqual(
                about(m, [1, always, 0, always - 1], look(0), look(1), look(2), look(3), look(0)),
                [[1], [always], [0], [always - 1], [1]],
            )

    def test_every_claim(self):
        for m in (1, 2, 3):
            for claim in range(2 ** 2 ** m):
                self.assertEqual(about(m, [claim], look(0)), [[claim]])
        for claim in range(0, 65536, 257):
            self.assertEqual(about(4, [claim], look(0)), [[claim]])


class State(unittest.TestCase):
    def test_how_many_letters_then_how_many_claims(self):
        for m in (1, 2, 3, 4):
            for many in range(5):
                self.assertEqual(about(m, [1] * many, (STATE,), (STATE,)), [[m, many], [m, many]])

    def test_what_changes_it(self):
        self.assertEqual(
            ask((BEGIN, 3), (STATE,), (PUT, 7), (STATE,), (PUT, 7), (STATE,), (SET, 0, 9), (STATE,), (DROP, 0),
                (STATE,), (BEGIN, 4), (STATE,), (PUT, 65535), (STATE,), (BEGIN, 1), (STATE,)),
            [[0], [3, 0], [0], [3, 1], [1], [3, 2], [7], [3, 2], [1], [3, 1], [0], [4, 0], [0], [4, 1], [0], [1, 0]],
        )

    def test_what_is_refused_does_not_change_it(self):
        for m in (1, 2, 3, 4):
            refused = [(BEGIN, 0), (BEGIN, 5), (BEGIN, LARGEST), (PUT, 2 ** 2 ** m), (PUT, LARGEST), (SET, 4, 0),
                       (SET, 0, 2 ** 2 ** m), (DROP, 4), (DROP, LARGEST), (PUT, 0)]
            for call in refused:
                told = about(m, [1, 2, 3, 0], call, (STATE,), look(0), look(1), look(2), look(3))
                self.assertLess(told[0][0], 0)
                self.assertEqual(told[1:], [[m, 4], [1], [2], [3], [0]])


if __name__ == "__main__":
    unittest.main()

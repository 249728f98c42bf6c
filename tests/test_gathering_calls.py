"""begins, copy, costs."""

import unittest

from helper import BEGINS, GREATEST, apparatus, ask, beside, copies, copy, costs, last


class Begins(unittest.TestCase):
    def test_answers_0(self):
        self.assertEqual(ask(BEGINS), [[0]])

    def test_no_copies_are_left(self):
        self.assertEqual(ask(copy(1), beside(0, 0), BEGINS, beside(0, 0), apparatus(0), copy(2)),
                         [[0], [0, 1, 0, 1, 1], [0], [-6], [-6], [0]])

    def test_costs_are_as_at_first(self):
        told = ask(costs(7, 100, 100), *copies([1], [2]), beside(0, 1),
                   BEGINS, *copies([1], [2], []), beside(0, 1), beside(0, 2), beside(2, 0))
        self.assertEqual(told[3], [7, 1, 0, 1, 2])
        self.assertEqual(told[8:], [[2, 1, 0, 1, 2], [2, 1, 1, 1, 0], [2, 1, 2, 0, 1]])

    def test_makes_room_for_eight_again(self):
        self.assertEqual(ask(*copies(*[[k] for k in range(1, 9)]), copy(9), BEGINS, copy(9))[8:], [[-5], [0], [0]])


class Copy(unittest.TestCase):
    def test_numbered_from_0(self):
        self.assertEqual(ask(copy(5, 6), copy(7), copy(5, 6)), [[0], [1], [2]])

    def test_words_are_kept_in_order(self):
        self.assertEqual(last(copy(3, 1, 2, 1), beside(0, 0)), [0, 4, 0, 3, 3, 0, 1, 1, 0, 2, 2, 0, 1, 1])

    def test_empty(self):
        self.assertEqual(ask(copy(), beside(0, 0)), [[0], [0, 0]])

    def test_60_words(self):
        row = list(range(1, 61))
        told = ask(copy(*row), beside(0, 0))
        self.assertEqual(told[0], [0])
        self.assertEqual(told[1], [0, 60] + [n for word in row for n in (0, word, word)])

    def test_61_and_100_words(self):
        self.assertEqual(ask(copy(*[1] * 61), copy(*[1] * 100), copy(2)), [[-1], [-1], [0]])

    def test_least_and_greatest_word(self):
        self.assertEqual(ask(copy(1, 99999), beside(0, 0)), [[0], [0, 2, 0, 1, 1, 0, 99999, 99999]])

    def test_words_out_of_range(self):
        for word in (0, 100000, GREATEST):
            for row in ([word], [word, 1, 2], [1, 2, word], [1, word, 2]):
                self.assertEqual(ask(copy(*row), beside(0, 0), copy(4)), [[-1], [-6], [0]], row)

    def test_eighth_and_ninth(self):
        eight = copies(*[[k] for k in range(1, 9)])
        told = ask(*eight, copy(9), beside(7, 7), beside(8, 8), copy())
        self.assertEqual(told[:8], [[k] for k in range(8)])
        self.assertEqual(told[8:], [[-5], [0, 1, 0, 8, 8], [-6], [-5]])

    def test_wrong_words_are_told_ahead_of_no_room(self):
        eight = copies(*[[k] for k in range(1, 9)])
        self.assertEqual(ask(*eight, copy(0), copy(100000), copy(*[1] * 61))[8:], [[-1], [-1], [-1]])

    def test_refused_copy_leaves_the_others(self):
        self.assertEqual(ask(copy(1, 2), copy(1, 0), beside(0, 0), beside(0, 1)),
                         [[0], [-1], [0, 2, 0, 1, 1, 0, 2, 2], [-6]])


class Costs(unittest.TestCase):
    ROWS = copies([1], [2], [])
    ASKED = (beside(0, 1), beside(0, 2), beside(2, 0))

    def told(self, *calls):
        """What another word, one left out and one put in cost behind these calls."""
        return [told[0] for told in ask(*self.ROWS, *calls, *self.ASKED)[-3:]]

    def test_2_2_2_at_first(self):
        self.assertEqual(self.told(), [2, 2, 2])

    def test_each_is_taken(self):
        self.assertEqual(ask(costs(3, 4, 5)), [[0]])
        self.assertEqual(self.told(costs(3, 4, 5)), [3, 4, 5])

    def test_last_ones_count(self):
        self.assertEqual(self.told(costs(3, 4, 5), costs(6, 7, 8)), [6, 7, 8])

    def test_least_and_greatest(self):
        self.assertEqual(ask(costs(1, 1, 1), costs(100, 100, 100)), [[0], [0]])
        self.assertEqual(self.told(costs(1, 1, 1)), [1, 1, 1])
        self.assertEqual(self.told(costs(100, 100, 100)), [100, 100, 100])

    def test_wrong_ones_change_nothing(self):
        for wrong in (0, 101, GREATEST):
            for call in (costs(wrong, 1, 1), costs(1, wrong, 1), costs(1, 1, wrong), costs(wrong, wrong, wrong)):
                self.assertEqual(ask(call), [[-1]], call)
                self.assertEqual(self.told(call), [2, 2, 2], call)
                self.assertEqual(self.told(costs(3, 4, 5), call), [3, 4, 5], call)

    def test_copies_are_kept(self):
        self.assertEqual(ask(copy(1), costs(3, 4, 5), copy(2)), [[0], [0], [1]])


if __name__ == "__main__":
    unittest.main()

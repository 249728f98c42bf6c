"""own: the numbers of a copy's readings, and every copy had again by them."""

import unittest

from helper import (BEGINS, GREATEST, apparatus, ask, chosen, copies, copy, costs, each_base, last, number_of, own,
                    places_told)


class Ordinary(unittest.TestCase):
    # Its places against copy 0: behind the first word nothing or 7; the word 3, 8 or none; behind the last none or 9.
    ROWS = copies([1, 2, 3, 4, 5], [1, 7, 2, 8, 4, 5], [1, 2, 4, 5, 9], [1, 7, 2, 3, 4, 5])

    def test_of_each_copy(self):
        self.assertEqual(ask(*self.ROWS, own(0, 0), own(0, 1), own(0, 2), own(0, 3))[4:],
                         [[3, 0, 0, 0], [3, 1, 1, 0], [3, 0, 2, 1], [3, 1, 0, 0]])

    def test_against_another_base(self):
        self.assertEqual(ask(*self.ROWS, own(1, 0), own(1, 1), own(1, 2), own(1, 3))[4:],
                         [[3, 1, 1, 0], [3, 0, 0, 0], [3, 1, 2, 1], [3, 0, 1, 0]])

    def test_the_base_comes_first_though_others_come_before_it(self):
        self.assertEqual(ask(*copies([4], [3], [5], [3]), own(2, 0), own(2, 1), own(2, 2), own(2, 3))[4:],
                         [[1, 1], [1, 2], [1, 0], [1, 2]])

    def test_base_and_copy_are_not_taken_for_one_another(self):
        rows = copies([1, 2], [1, 3], [1, 3, 4])
        self.assertEqual(ask(*rows, own(0, 2), own(2, 0))[3:], [[1, 2], [2, 1, 1]])

    def test_by_the_costs_of_now(self):
        # Three words are others, or one is left out ahead and one put in behind.
        rows = copies([1, 2, 3], [2, 3, 1])
        self.assertEqual(ask(*rows, costs(1, 5, 5), own(0, 1), costs(5, 1, 2), own(0, 1))[2:],
                         [[0], [3, 1, 1, 1], [0], [2, 1, 1]])

    def test_begins_in_the_middle(self):
        self.assertEqual(ask(*copies([1], [2]), own(0, 1), BEGINS, own(0, 1), copy(1), own(0, 1), copy(1), own(0, 1)),
                         [[0], [1], [1, 1], [0], [-6], [0], [-6], [1], [0]])


class Edges(unittest.TestCase):
    def test_one_copy_alone(self):
        self.assertEqual(ask(copy(1, 2), own(0, 0)), [[0], [0]])
        self.assertEqual(ask(copy(), own(0, 0)), [[0], [0]])

    def test_all_the_same(self):
        self.assertEqual(ask(*copies([1, 2], [1, 2], [1, 2]), own(1, 0), own(1, 1), own(0, 2))[3:], [[0], [0], [0]])

    def test_empty_base(self):
        self.assertEqual(ask(*copies([], [1, 2], [3], []), own(0, 0), own(0, 1), own(0, 2), own(0, 3))[4:],
                         [[1, 0], [1, 1], [1, 2], [1, 0]])

    def test_empty_copy(self):
        self.assertEqual(ask(*copies([1, 2], []), own(0, 1), own(1, 0))[2:], [[2, 1, 1], [1, 1]])

    def test_eight_copies_of_60_words(self):
        rows = [list(range(100 * v + 1, 100 * v + 61)) for v in range(8)]
        for v in range(8):
            self.assertEqual(last(*copies(*rows), own(0, v)), [60] + [v] * 60)
            self.assertEqual(last(*copies(*rows), own(3, v)), [60] + [0 if v == 3 else v + (v < 3)] * 60)


class EveryCopyAgain(unittest.TestCase):
    def test_as_apparatus_tells_and_chosen_gives_the_copy(self):
        for u, rows, ahead in each_base():
            told = ask(*ahead, apparatus(u), *[own(u, w) for w in range(len(rows))])[len(ahead):]
            places = places_told(told[0])
            for w, numbers in enumerate(told[1:]):
                self.assertEqual(numbers, [len(places)] + [number_of(place, w) for place in places], (u, w, rows))
            calls = [chosen(u, *numbers[1:]) for numbers in told[1:]]
            self.assertEqual(ask(*ahead, *calls)[len(ahead):], [[len(row)] + list(row) for row in rows])


class Refusals(unittest.TestCase):
    def test_no_such_copy(self):
        for missing in (2, 3, 8, GREATEST):
            told = ask(*copies([1], [2]), own(missing, 0), own(0, missing), own(missing, missing), own(1, 0))
            self.assertEqual(told[2:], [[-6], [-6], [-6], [1, 1]], missing)

    def test_no_copies(self):
        self.assertEqual(ask(own(0, 0), own(0, 1), own(GREATEST, 0), own(0, GREATEST)), [[-6]] * 4)

    def test_with_eight(self):
        eight = copies(*[[k] for k in range(1, 9)])
        self.assertEqual(ask(*eight, own(7, 8), own(8, 7), own(0, 7))[8:], [[-6], [-6], [1, 7]])


if __name__ == "__main__":
    unittest.main()

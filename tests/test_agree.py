"""agree: in how many places two copies have the same reading."""

import unittest

from helper import BEGINS, GREATEST, agree, ask, copies, copy, costs, each_base, last, own


class Ordinary(unittest.TestCase):
    # Its places against copy 0: behind the first word nothing or 7; the word 3, 8 or none; behind the last none or 9.
    ROWS = copies([1, 2, 3, 4, 5], [1, 7, 2, 8, 4, 5], [1, 2, 4, 5, 9], [1, 7, 2, 3, 4, 5])

    def test_number_by_number(self):
        self.assertEqual(last(*self.ROWS, agree(0)),
                         [3,
                          3, 1, 1, 2,
                          1, 3, 0, 2,
                          1, 0, 3, 0,
                          2, 2, 0, 3])

    def test_another_base_has_other_places(self):
        rows = copies([1, 2], [1, 3], [1, 3, 4])
        self.assertEqual(ask(*rows, agree(0), agree(2))[3:],
                         [[1, 1, 0, 0, 0, 1, 0, 0, 0, 1], [2, 2, 1, 0, 1, 2, 1, 0, 1, 2]])

    def test_by_the_costs_of_now(self):
        rows = copies([1, 2, 3], [2, 3, 1])
        self.assertEqual(ask(*rows, costs(1, 5, 5), agree(0), costs(5, 1, 2), agree(0))[3:],
                         [[3, 3, 0, 0, 3], [0], [2, 2, 0, 0, 2]])

    def test_begins_in_the_middle(self):
        self.assertEqual(ask(*copies([1], [2]), agree(0), BEGINS, agree(0), copy(1), agree(0))[2:],
                         [[1, 1, 0, 0, 1], [0], [-6], [0], [0, 0]])


class Edges(unittest.TestCase):
    def test_one_copy_alone(self):
        self.assertEqual(ask(copy(1, 2), agree(0)), [[0], [0, 0]])
        self.assertEqual(ask(copy(), agree(0)), [[0], [0, 0]])

    def test_no_place(self):
        self.assertEqual(last(*copies([1, 2], [1, 2], [1, 2]), agree(1)), [0] * 10)
        self.assertEqual(last(*copies([], []), agree(0)), [0] * 5)

    def test_empty_base_and_empty_copy(self):
        self.assertEqual(ask(*copies([], [1, 2], []), agree(0), agree(1))[3:],
                         [[1, 1, 0, 1, 0, 1, 0, 1, 0, 1], [2, 2, 0, 2, 0, 2, 0, 2, 0, 2]])

    def test_all_but_the_base(self):
        self.assertEqual(last(*copies([1], [2], [2]), agree(0)), [1, 1, 0, 0, 0, 1, 1, 0, 1, 1])

    def test_eight_copies_of_60_words(self):
        # Copies v and w have the same at the words behind as many as the greater of both changes.
        rows = [[1000 * v + k + 1 if k < 5 * v else k + 1 for k in range(60)] for v in range(8)]
        expected = [35 if v == w else 35 - 5 * max(v, w) for v in range(8) for w in range(8)]
        self.assertEqual(last(*copies(*rows), agree(0)), [35] + expected)


class AsOwnTells(unittest.TestCase):
    def test_counted_by_the_readings_numbers(self):
        for u, rows, ahead in each_base():
            everyone = range(len(rows))
            told = ask(*ahead, agree(u), *[own(u, w) for w in everyone])[len(ahead):]
            numbers = [one[1:] for one in told[1:]]
            expected = [sum(a == b for a, b in zip(numbers[v], numbers[w])) for v in everyone for w in everyone]
            self.assertEqual(told[0], [len(numbers[0])] + expected, (u, rows))


class Refusals(unittest.TestCase):
    def test_no_such_copy(self):
        for missing in (2, 3, 8, GREATEST):
            self.assertEqual(ask(*copies([1], [2]), agree(missing), agree(1))[2:], [[-6], [1, 1, 0, 0, 1]], missing)

    def test_no_copies(self):
        self.assertEqual(ask(agree(0), agree(GREATEST)), [[-6], [-6]])


if __name__ == "__main__":
    unittest.main()

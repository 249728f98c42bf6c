"""most: the base with the readings that most copies have."""

import unittest

from helper import BEGINS, GREATEST, apparatus, ask, chosen, copies, copy, costs, each_base, last, most, places_told


class Ordinary(unittest.TestCase):
    # Its places against copy 0: behind the first word nothing or 7; the word 3, 8 or none; behind the last none or 9.
    ROWS = copies([1, 2, 3, 4, 5], [1, 7, 2, 8, 4, 5], [1, 2, 4, 5, 9], [1, 7, 2, 8, 4, 5],
                  [1, 7, 2, 8, 4, 5, 9])

    def test_number_by_number(self):
        self.assertEqual(last(*self.ROWS, most(0)), [6, 1, 7, 2, 8, 4, 5, 1, 1, 0])

    def test_other_bases_number_them_otherwise(self):
        self.assertEqual(ask(*self.ROWS, most(1), most(2))[5:],
                         [[6, 1, 7, 2, 8, 4, 5, 0, 0, 0], [6, 1, 7, 2, 8, 4, 5, 1, 2, 1]])

    def test_a_reading_of_none_of_the_base(self):
        self.assertEqual(last(*copies([1, 2], [1], [1]), most(0)), [1, 1, 1])

    def test_a_longer_reading(self):
        self.assertEqual(last(*copies([1, 2], [1, 7, 8, 9, 2], [1, 7, 8, 9, 2]), most(0)), [5, 1, 7, 8, 9, 2, 1])

    def test_by_the_costs_of_now(self):
        # Of 1 2 3 beside 2 3 1 all words are others, or the first is left out and one is put in behind.
        rows = copies([1, 2, 3], [2, 3, 1], [2, 3, 1])
        self.assertEqual(ask(*rows, costs(1, 5, 5), most(0), costs(5, 1, 2), most(0))[4:],
                         [[3, 2, 3, 1, 1, 1, 1], [0], [3, 2, 3, 1, 1, 1]])

    def test_a_text_that_no_copy_has(self):
        self.assertEqual(last(*copies([1, 2, 3], [9, 2, 3], [1, 9, 3], [1, 2, 9], [9, 9, 9]), most(1)),
                         [3, 1, 2, 3, 1, 0, 0])

    def test_begins_in_the_middle(self):
        self.assertEqual(ask(*copies([1], [2], [2]), most(0), BEGINS, most(0), copy(1), most(0), copy(2), most(0))[3:],
                         [[1, 2, 1], [0], [-6], [0], [1, 1], [1], [1, 1, 0]])


class Edges(unittest.TestCase):
    def test_of_as_many_the_bases(self):
        self.assertEqual(ask(*copies([1], [2]), most(0), most(1))[2:], [[1, 1, 0], [1, 2, 0]])
        self.assertEqual(ask(*copies([2], [1], [2], [1]), most(0), most(1), most(3))[4:],
                         [[1, 2, 0], [1, 1, 0], [1, 1, 0]])

    def test_of_as_many_the_first_of_the_others(self):
        self.assertEqual(last(*copies([1], [2], [3], [3], [2]), most(0)), [1, 2, 1])
        self.assertEqual(last(*copies([1], [4], [3], [2], [2], [3]), most(0)), [1, 3, 2])

    def test_all_but_the_base(self):
        self.assertEqual(last(*copies([5, 1], [5, 2], [5, 2], [5, 2]), most(0)), [2, 5, 2, 1])
        self.assertEqual(last(*copies([5, 2], [5, 2], [5, 2], [5, 1]), most(3)), [2, 5, 2, 1])

    def test_no_place(self):
        self.assertEqual(ask(copy(1, 2), most(0)), [[0], [2, 1, 2]])
        self.assertEqual(ask(copy(), most(0)), [[0], [0]])
        self.assertEqual(last(*copies([1, 2], [1, 2], [1, 2]), most(2)), [2, 1, 2])

    def test_empty_base(self):
        self.assertEqual(ask(*copies([], [1, 2], [1, 2]), most(0))[3:], [[2, 1, 2, 1]])
        self.assertEqual(ask(*copies([], [1, 2], [3]), most(0))[3:], [[0, 0]])

    def test_empty_copies(self):
        self.assertEqual(last(*copies([1, 2], [], []), most(0)), [0, 1, 1])

    def test_eight_copies_of_60_words(self):
        rows = [list(range(1, 61))] * 3 + [list(range(101, 161))] * 4 + [list(range(201, 261))]
        self.assertEqual(last(*copies(*rows), most(0)), [60] + list(range(101, 161)) + [1] * 60)
        self.assertEqual(last(*copies(*rows), most(5)), [60] + list(range(101, 161)) + [0] * 60)
        self.assertEqual(last(*copies(*rows), most(7)), [60] + list(range(101, 161)) + [2] * 60)

    def test_more_words_than_a_copy_may_have(self):
        # Each of three rows is put in by four of seven copies, all three by none.
        first, second, third = list(range(201, 211)), list(range(301, 311)), list(range(401, 411))
        one, two = list(range(1, 21)), list(range(21, 41))
        some = [first + one + second + two, one + second + two + third, first + one + two + third]
        self.assertEqual(last(*copies(one + two, *some, *some), most(0)),
                         [70] + first + one + second + two + third + [1, 1, 1])


class AsChosen(unittest.TestCase):
    def test_of_the_readings_that_most_have(self):
        for u, rows, ahead in each_base():
            places = places_told(last(*ahead, apparatus(u)))
            numbers = []
            for before, held, readings in places:
                best = 0
                for number, (words, holders) in enumerate(readings):
                    if len(holders) > len(readings[best][1]):
                        best = number
                numbers.append(best)
            told = ask(*ahead, most(u), chosen(u, *numbers))[len(ahead):]
            self.assertEqual(told[0], told[1] + numbers, (u, rows))


class Refusals(unittest.TestCase):
    def test_no_such_copy(self):
        for missing in (2, 3, 8, GREATEST):
            self.assertEqual(ask(*copies([1], [2]), most(missing), most(1))[2:], [[-6], [1, 2, 0]], missing)

    def test_no_copies(self):
        self.assertEqual(ask(most(0), most(GREATEST)), [[-6], [-6]])


if __name__ == "__main__":
    unittest.main()

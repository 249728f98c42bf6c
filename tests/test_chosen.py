"""chosen: the base with other readings in its places."""

import unittest

from helper import GREATEST, apparatus, ask, chosen, copies, copy, each_base, last, number_of, places_told


class Ordinary(unittest.TestCase):
    # Its places are: behind the first word nothing or 7; the word 3, 8 or none; behind the last nothing or 9.
    ROWS = copies([1, 2, 3, 4, 5], [1, 7, 2, 8, 4, 5], [1, 2, 4, 5, 9])

    def test_the_places_are_as_told(self):
        self.assertEqual(places_told(last(*self.ROWS, apparatus(0))),
                         [(1, 0, [([], [0, 2]), ([7], [1])]),
                          (2, 1, [([3], [0]), ([8], [1]), ([], [2])]),
                          (5, 0, [([], [0, 1]), ([9], [2])])])

    def test_each_choice(self):
        for first, ahead in enumerate(([], [7])):
            for second, middle in enumerate(([3], [8], [])):
                for third, behind in enumerate(([], [9])):
                    words = [1] + ahead + [2] + middle + [4, 5] + behind
                    self.assertEqual(last(*self.ROWS, chosen(0, first, second, third)), [len(words)] + words)

    def test_the_bases_own(self):
        self.assertEqual(last(*self.ROWS, chosen(0, 0, 0, 0)), [5, 1, 2, 3, 4, 5])

    def test_a_place_of_several_slots(self):
        rows = copies([1, 2, 5], [3, 4, 5], [1, 6, 2, 5])
        self.assertEqual(ask(*rows, chosen(0, 0), chosen(0, 1), chosen(0, 2))[3:],
                         [[3, 1, 2, 5], [3, 3, 4, 5], [4, 1, 6, 2, 5]])

    def test_two_places_beside_one_another(self):
        self.assertEqual(ask(*copies([1, 2], [3, 4]), chosen(0, 1, 0), chosen(0, 0, 1))[2:], [[2, 3, 2], [2, 1, 4]])

    def test_changes_nothing(self):
        told = ask(*self.ROWS, apparatus(0), chosen(0, 1, 1, 1), chosen(0, 2, 2, 2), apparatus(0), chosen(0, 0, 0, 0))
        self.assertEqual(told[3], told[6])
        self.assertEqual(told[7], [5, 1, 2, 3, 4, 5])


class Edges(unittest.TestCase):
    def test_no_place(self):
        self.assertEqual(last(copy(1, 2), chosen(0)), [2, 1, 2])
        self.assertEqual(last(copy(), chosen(0)), [0])

    def test_empty_base(self):
        self.assertEqual(ask(*copies([], [1, 2]), chosen(0, 0), chosen(0, 1))[2:], [[0], [2, 1, 2]])

    def test_more_words_than_a_copy_may_have(self):
        base = list(range(1, 41))
        ahead = list(range(201, 221)) + base
        behind = base + list(range(301, 321))
        self.assertEqual(last(*copies(base, ahead, behind), chosen(0, 1, 1)),
                         [80] + list(range(201, 221)) + base + list(range(301, 321)))

    def test_sixty_places(self):
        rows = copies(list(range(1, 61)), list(range(101, 161)))
        numbers = [k % 2 for k in range(60)]
        self.assertEqual(last(*rows, chosen(0, *numbers)), [60] + [k + 1 + 100 * (k % 2) for k in range(60)])


class EveryCopyAgain(unittest.TestCase):
    def test_by_the_readings_that_apparatus_tells(self):
        for u, rows, ahead in each_base():
            places = places_told(last(*ahead, apparatus(u)))
            calls = [chosen(u, *[number_of(place, v) for place in places]) for v in range(len(rows))]
            self.assertEqual(ask(*ahead, *calls)[len(ahead):], [[len(row)] + list(row) for row in rows])


class Refusals(unittest.TestCase):
    ROWS = copies([1, 2], [3, 4])

    def test_no_such_copy(self):
        for missing in (2, 8, GREATEST):
            self.assertEqual(last(*self.ROWS, chosen(missing, 0, 0)), [-6], missing)
        self.assertEqual(ask(chosen(0)), [[-6]])

    def test_too_few_and_too_many(self):
        for numbers in ([], [0], [0, 0, 0], [1], [1, 1, 1], [0] * 200):
            self.assertEqual(last(*self.ROWS, chosen(0, *numbers)), [-1], numbers)
        self.assertEqual(ask(copy(1), chosen(0, 0))[1], [-1])

    def test_a_reading_that_there_is_not(self):
        for numbers in ([2, 0], [0, 2], [GREATEST, 0], [0, GREATEST], [2, 2]):
            self.assertEqual(last(*self.ROWS, chosen(0, *numbers)), [-1], numbers)

    def test_each_place_has_its_own_count(self):
        rows = copies([1, 2], [3, 2], [4, 5])
        self.assertEqual(ask(*rows, chosen(0, 2, 1), chosen(0, 2, 2))[3:], [[2, 4, 5], [-1]])

    def test_no_such_copy_is_told_ahead_of_wrong_readings(self):
        for numbers in ([], [0], [9, 9], [GREATEST] * 200):
            self.assertEqual(last(*self.ROWS, chosen(2, *numbers)), [-6], numbers)


if __name__ == "__main__":
    unittest.main()

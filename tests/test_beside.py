"""beside: the way, what it costs, and which of several it is."""

import itertools
import unittest

from helper import GREATEST, ask, beside, copies, costs, last, the_way


def way_told(first, second, *three_costs):
    """What beside answers: the cost, and the steps as a list."""
    ahead = [costs(*three_costs)] if three_costs else []
    numbers = last(*ahead, *copies(first, second), beside(0, 1))
    assert len(numbers) == 2 + 3 * numbers[1], numbers
    return numbers[0], [tuple(numbers[k:k + 3]) for k in range(2, len(numbers), 3)]


class Ordinary(unittest.TestCase):
    def test_one_of_each(self):
        self.assertEqual(way_told([1, 2, 3, 4, 5, 6], [1, 9, 3, 5, 6, 7]),
                         (6, [(0, 1, 1), (0, 2, 9), (0, 3, 3), (1, 4, 0), (0, 5, 5), (0, 6, 6), (2, 0, 7)]))

    def test_from_the_first_to_the_second(self):
        rows = copies([1, 2], [2])
        self.assertEqual(ask(*rows, costs(9, 3, 5), beside(0, 1), beside(1, 0))[3:],
                         [[3, 2, 1, 1, 0, 0, 2, 2], [5, 2, 2, 0, 1, 0, 2, 2]])

    def test_put_in_ahead_and_behind(self):
        self.assertEqual(way_told([5], [1, 2, 5, 3, 4]),
                         (8, [(2, 0, 1), (2, 0, 2), (0, 5, 5), (2, 0, 3), (2, 0, 4)]))

    def test_other_costs_make_another_way(self):
        self.assertEqual(way_told([1, 2], [3, 1]), (4, [(0, 1, 3), (0, 2, 1)]))
        self.assertEqual(way_told([1, 2], [3, 1], 10, 1, 1), (2, [(2, 0, 3), (0, 1, 1), (1, 2, 0)]))

    def test_any_two_of_several(self):
        rows = ([1, 2], [1, 3], [2])
        self.assertEqual(ask(*copies(*rows), beside(2, 1), beside(1, 1))[3:],
                         [[4, 2, 0, 2, 1, 2, 0, 3], [0, 2, 0, 1, 1, 0, 3, 3]])


class Edges(unittest.TestCase):
    def test_empty_copies(self):
        self.assertEqual(way_told([], []), (0, []))
        self.assertEqual(way_told([], [1, 2], 1, 2, 3), (6, [(2, 0, 1), (2, 0, 2)]))
        self.assertEqual(way_told([1, 2], [], 1, 2, 3), (4, [(1, 1, 0), (1, 2, 0)]))

    def test_beside_itself(self):
        self.assertEqual(last(costs(1, 1, 1), *copies([4, 4, 5]), beside(0, 0)), [0, 3, 0, 4, 4, 0, 4, 4, 0, 5, 5])

    def test_60_words_against_60_others(self):
        first, second = list(range(1, 61)), list(range(101, 161))
        self.assertEqual(way_told(first, second), (120, [(0, a, b) for a, b in zip(first, second)]))
        cost, steps = way_told(first, second, 100, 1, 1)
        self.assertEqual(cost, 120)
        self.assertEqual(steps, [(1, a, 0) for a in first] + [(2, 0, b) for b in second])

    def test_60_words_shifted_by_one(self):
        first, second = list(range(1, 61)), list(range(2, 62))
        self.assertEqual(way_told(first, second),
                         (4, [(1, 1, 0)] + [(0, a, a) for a in range(2, 61)] + [(2, 0, 61)]))

    def test_greatest_costs(self):
        self.assertEqual(way_told([1], [2], 100, 100, 100), (100, [(0, 1, 2)]))
        self.assertEqual(way_told([1] * 60, [], 100, 100, 100)[0], 6000)


class Ties(unittest.TestCase):
    def test_a_pair_rather_than_out_and_in(self):
        self.assertEqual(way_told([1], [2], 2, 1, 1), (2, [(0, 1, 2)]))
        self.assertEqual(way_told([1], [2], 3, 1, 1), (2, [(1, 1, 0), (2, 0, 2)]))

    def test_unlike_pairs_rather_than_a_like_one_later(self):
        self.assertEqual(way_told([1, 2], [2, 1]), (4, [(0, 1, 2), (0, 2, 1)]))

    def test_left_out_rather_than_put_in(self):
        self.assertEqual(way_told([1, 2], [2, 1], 100, 2, 2), (4, [(1, 1, 0), (0, 2, 2), (2, 0, 1)]))
        self.assertEqual(way_told([1], [2], 100, 7, 7), (14, [(1, 1, 0), (2, 0, 2)]))

    def test_the_pair_stands_first(self):
        self.assertEqual(way_told([1, 1], [1]), (2, [(0, 1, 1), (1, 1, 0)]))
        self.assertEqual(way_told([1], [1, 1]), (2, [(0, 1, 1), (2, 0, 1)]))
        self.assertEqual(way_told([1, 2], [3]), (4, [(0, 1, 3), (1, 2, 0)]))
        self.assertEqual(way_told([3], [1, 2]), (4, [(0, 3, 1), (2, 0, 2)]))

    def test_a_dearer_pair_is_not_taken(self):
        self.assertEqual(way_told([1, 2], [2]), (2, [(1, 1, 0), (0, 2, 2)]))
        self.assertEqual(way_told([2], [1, 2]), (2, [(2, 0, 1), (0, 2, 2)]))


class AgainstAllWays(unittest.TestCase):
    COSTS = ((2, 2, 2), (1, 1, 1), (2, 1, 1), (3, 1, 2), (3, 2, 1), (100, 1, 1), (1, 100, 100), (100, 3, 5))

    def test_short_rows_of_two_words(self):
        rows = [list(row) for many in range(4) for row in itertools.product((1, 2), repeat=many)]
        for first, second, three in itertools.product(rows, rows, self.COSTS):
            self.check(first, second, three)

    def test_longer_rows(self):
        firsts = ([1, 2, 3, 4], [1, 1, 2, 2], [3, 1, 2, 3], [4, 3, 2, 1, 4])
        seconds = ([4, 3, 2, 1], [2, 2, 1, 1], [1, 2, 3, 1, 2], [5, 1, 5, 3])
        for first, second, three in itertools.product(firsts, seconds, self.COSTS):
            self.check(first, second, three)

    def check(self, first, second, three):
        cost, steps = way_told(first, second, *three)
        self.assertEqual(steps, the_way(first, second, three), (first, second, three))
        self.assertEqual(cost, sum((three[0] * (a != b), three[1], three[2])[kind] for kind, a, b in steps))


class Refusals(unittest.TestCase):
    def test_no_such_copy(self):
        for missing in (2, 8, GREATEST):
            told = ask(*copies([1], [2]), beside(missing, 0), beside(0, missing), beside(missing, missing))
            self.assertEqual(told[2:], [[-6], [-6], [-6]], missing)

    def test_no_copy_at_all(self):
        self.assertEqual(ask(beside(0, 0)), [[-6]])


if __name__ == "__main__":
    unittest.main()

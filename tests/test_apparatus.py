"""apparatus: slots, places, readings."""

import itertools
import unittest

from helper import BEGINS, GREATEST, apparatus, ask, copies, costs, last, places_told, the_way


def told(u, *rows, ahead=()):
    return places_told(last(*ahead, *copies(*rows), apparatus(u)))


class Ordinary(unittest.TestCase):
    def test_number_by_number(self):
        rows = copies([1, 2, 3, 4], [1, 9, 3], [1, 2, 3, 4], [7, 1, 9, 3, 4])
        self.assertEqual(last(*rows, apparatus(0)),
                         [3,
                          0, 0, 2, 0, 3, 0, 1, 2, 1, 7, 1, 3,
                          1, 1, 2, 1, 2, 2, 0, 2, 1, 9, 2, 1, 3,
                          3, 1, 2, 1, 4, 3, 0, 2, 3, 0, 1, 1])

    def test_each_base_tells_its_own(self):
        rows = ([1, 2], [1, 3], [1, 3, 4])
        self.assertEqual(told(0, *rows), [(1, 1, [([2], [0]), ([3], [1]), ([3, 4], [2])])])
        self.assertEqual(told(1, *rows), [(1, 1, [([3], [1]), ([2], [0]), ([3, 4], [2])])])
        self.assertEqual(told(2, *rows), [(1, 1, [([3], [1, 2]), ([2], [0])]), (2, 1, [([4], [2]), ([], [0, 1])])])

    def test_other_costs_make_other_places(self):
        rows = ([1, 2], [3, 1])
        self.assertEqual(told(0, *rows), [(0, 1, [([1], [0]), ([3], [1])]), (1, 1, [([2], [0]), ([1], [1])])])
        self.assertEqual(told(0, *rows, ahead=[costs(10, 1, 1)]),
                         [(0, 0, [([], [0]), ([3], [1])]), (1, 1, [([2], [0]), ([], [1])])])

    def test_by_the_costs_of_now(self):
        rows = copies([1, 2], [3, 1])
        answers = ask(*rows, apparatus(0), costs(10, 1, 1), apparatus(0), BEGINS, *rows, apparatus(0))
        self.assertEqual(answers[2], answers[-1])
        self.assertNotEqual(answers[2], answers[4])

    def test_from_the_base_to_the_copy(self):
        self.assertEqual(told(0, [1, 2], [2], ahead=[costs(9, 3, 5)]), [(0, 1, [([1], [0]), ([], [1])])])
        self.assertEqual(told(1, [1, 2], [2], ahead=[costs(9, 3, 5)]), [(0, 0, [([], [1]), ([1], [0])])])


class Readings(unittest.TestCase):
    def test_the_bases_stands_first_then_as_the_copies_come(self):
        self.assertEqual(told(2, [4], [3], [5], [3], [5], [2]),
                         [(0, 1, [([5], [2, 4]), ([4], [0]), ([3], [1, 3]), ([2], [5])])])

    def test_several_copies_have_one(self):
        self.assertEqual(told(0, [1], [2], [2], [1], [2]), [(0, 1, [([1], [0, 3]), ([2], [1, 2, 4])])])

    def test_one_behind_another_over_several_slots(self):
        self.assertEqual(told(0, [1, 2], [8, 9, 2], [8, 2]),
                         [(0, 1, [([1], [0]), ([8, 9], [1]), ([8], [2])])])

    def test_copies_like_the_base_in_one_place(self):
        self.assertEqual(told(0, [1, 2, 3], [9, 2, 3], [1, 2, 8]),
                         [(0, 1, [([1], [0, 2]), ([9], [1])]), (2, 1, [([3], [0, 1]), ([8], [2])])])


class Places(unittest.TestCase):
    def test_none(self):
        self.assertEqual(last(*copies([1, 2]), apparatus(0)), [0])
        self.assertEqual(last(*copies([1, 2], [1, 2], [1, 2]), apparatus(1)), [0])
        self.assertEqual(last(*copies([]), apparatus(0)), [0])
        self.assertEqual(last(*copies([], [], []), apparatus(2)), [0])

    def test_words_beside_one_another_with_nothing_put_in_between_are_two(self):
        self.assertEqual(told(0, [1, 2], [3, 4]), [(0, 1, [([1], [0]), ([3], [1])]), (1, 1, [([2], [0]), ([4], [1])])])

    def test_something_put_in_between_makes_them_one(self):
        self.assertEqual(told(0, [1, 2, 5], [3, 4, 5], [1, 6, 2, 5]),
                         [(0, 2, [([1, 2], [0]), ([3, 4], [1]), ([1, 6, 2], [2])])])

    def test_two_with_an_unvaried_word_between(self):
        self.assertEqual(told(0, [5], [1, 5, 2]), [(0, 0, [([], [0]), ([1], [1])]), (1, 0, [([], [0]), ([2], [1])])])

    def test_put_in_ahead_of_the_first(self):
        self.assertEqual(told(0, [5, 6], [1, 2, 5, 6]), [(0, 0, [([], [0]), ([1, 2], [1])])])

    def test_put_in_behind_the_last(self):
        self.assertEqual(told(0, [5, 6], [5, 6, 1, 2]), [(2, 0, [([], [0]), ([1, 2], [1])])])

    def test_put_in_ahead_of_a_varied_word_is_one_place_with_it(self):
        self.assertEqual(told(0, [5, 6], [1, 5, 6], [7, 6]),
                         [(0, 1, [([5], [0]), ([1, 5], [1]), ([7], [2])])])

    def test_all_slots(self):
        self.assertEqual(told(0, [1, 2], [9, 1, 9, 2, 9], [3, 4]),
                         [(0, 2, [([1, 2], [0]), ([9, 1, 9, 2, 9], [1]), ([3, 4], [2])])])

    def test_a_word_left_out_is_varied(self):
        self.assertEqual(told(0, [1, 2, 3], [1, 3]), [(1, 1, [([2], [0]), ([], [1])])])

    def test_varied_by_any_copy_the_last_too(self):
        same = [[1, 2, 3]] * 7
        self.assertEqual(told(0, *same, [1, 4, 3]), [(1, 1, [([2], list(range(7))), ([4], [7])])])
        self.assertEqual(told(7, *same, [1, 4, 3]), [(1, 1, [([4], [7]), ([2], list(range(7)))])])


class Edges(unittest.TestCase):
    def test_empty_base(self):
        self.assertEqual(told(0, [], [1, 2], [], [3]), [(0, 0, [([], [0, 2]), ([1, 2], [1]), ([3], [3])])])

    def test_empty_copy(self):
        self.assertEqual(told(0, [1, 2], []), [(0, 1, [([1], [0]), ([], [1])]), (1, 1, [([2], [0]), ([], [1])])])

    def test_60_words(self):
        base, other = list(range(1, 61)), list(range(101, 161))
        self.assertEqual(told(0, base, other),
                         [(k, 1, [([k + 1], [0]), ([k + 101], [1])]) for k in range(60)])
        self.assertEqual(told(1, base, []), [(0, 0, [([], [1]), (base, [0])])])

    def test_least_and_greatest_word(self):
        self.assertEqual(told(0, [1], [99999]), [(0, 1, [([1], [0]), ([99999], [1])])])


def slots_by_ways(base, row, three_costs):
    """What the document says the base's slots have of the row, looked up in the way by counting."""
    steps = the_way(base, row, three_costs)
    slots = []
    for slot in range(2 * len(base) + 1):
        passed = 0
        words = []
        for kind, a, b in steps:
            if kind == 2 and slot == 2 * passed:
                words.append(b)
            if kind == 0 and slot == 2 * passed + 1:
                words.append(b)
            passed += kind != 2
        slots.append(words)
    return slots


def places_by_words(u, rows, three_costs):
    """The places by the document's words."""
    table = [slots_by_ways(rows[u], row, three_costs) for row in rows]
    slots = range(len(table[u]))
    varied = [any(own[k] != table[u][k] for own in table) for k in slots]
    found = []
    for is_place, group in itertools.groupby(slots, key=lambda k: varied[k]):
        if is_place:
            run = list(group)
            texts = [[word for k in run for word in own[k]] for own in table]
            readings = []
            for words in [texts[u]] + texts:
                holders = [v for v, text in enumerate(texts) if text == words]
                if (words, holders) not in readings:
                    readings.append((words, holders))
            before = len([k for k in range(run[0]) if k % 2 == 1])
            found.append((before, len([k for k in run if k % 2 == 1]), readings))
    return found


class ByTheWords(unittest.TestCase):
    GATHERINGS = (
        ([1, 2, 3], [2, 3, 1], [3, 1, 2], [1, 3]),
        ([1, 1, 2], [1, 2, 2], [2, 1], [], [2, 2, 1, 1]),
        ([1, 2, 3, 4], [1, 9, 3], [7, 1, 9, 3, 4], [4, 3, 2, 1]),
        ([5], [6, 5, 7], [7, 6], [5, 5, 5], []),
        ([], [1], [1, 2], [2]),
        ([3, 3, 3], [3, 3], [3], [3, 3, 3, 3], [4, 3, 4, 3]),
    )
    COSTS = ((2, 2, 2), (1, 1, 1), (3, 1, 1), (100, 1, 2), (1, 100, 3))

    def test_small_gatherings(self):
        for rows, three in itertools.product(self.GATHERINGS, self.COSTS):
            for u in range(len(rows)):
                self.assertEqual(told(u, *rows, ahead=[costs(*three)]), places_by_words(u, rows, three),
                                 (u, rows, three))

    def test_all_threes_of_short_rows(self):
        rows = [list(row) for many in range(3) for row in itertools.product((1, 2), repeat=many)]
        for three_rows in itertools.product(rows, repeat=3):
            self.assertEqual(told(0, *three_rows), places_by_words(0, three_rows, (2, 2, 2)), three_rows)


class Refusals(unittest.TestCase):
    def test_no_such_copy(self):
        for missing in (2, 8, GREATEST):
            self.assertEqual(last(*copies([1], [2]), apparatus(missing)), [-6], missing)

    def test_no_copy_at_all(self):
        self.assertEqual(ask(apparatus(0)), [[-6]])


if __name__ == "__main__":
    unittest.main()

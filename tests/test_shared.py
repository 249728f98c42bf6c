"""shared: the sets of copies that share a change, and the first two that clash."""

import unittest

from helper import BEGINS, GREATEST, apparatus, ask, copies, copy, costs, each_base, last, places_told, shared


def rows_with(words, many, *sets):
    """Copies of one row of words; those of the first set have another word in the first place, and so on."""
    rows = [list(range(1, words + 1)) for v in range(many)]
    for place, holders in enumerate(sets):
        for v in holders:
            rows[v][place] = 101 + place
    return copies(*rows)


class Ordinary(unittest.TestCase):
    def test_number_by_number(self):
        rows = rows_with(4, 5, (1, 2), (3, 4), (1, 2), (2, 3))
        self.assertEqual(last(*rows, shared(0)), [3, 2, 1, 2, 2, 2, 3, 4, 1, 2, 2, 3, 1, 1, 0, 2])

    def test_two_sets_of_one_place(self):
        self.assertEqual(last(*copies([1], [3], [2], [2], [3]), shared(0)), [2, 2, 1, 4, 1, 2, 2, 3, 1, 0])

    def test_another_base_shares_other_changes(self):
        rows = copies([1, 5], [2, 5], [2, 5], [1, 6])
        self.assertEqual(ask(*rows, shared(0), shared(1), shared(3))[4:],
                         [[1, 2, 1, 2, 1, 0], [1, 2, 0, 3, 1, 0], [2, 2, 1, 2, 1, 3, 0, 1, 2, 1, 0]])

    def test_by_the_costs_of_now(self):
        # Three words are others, or one is left out ahead and one put in behind.
        rows = copies([1, 2, 3], [2, 3, 1], [2, 3, 1])
        self.assertEqual(ask(*rows, costs(1, 5, 5), shared(0), costs(5, 1, 2), shared(0))[4:],
                         [[1, 2, 1, 2, 3, 0], [0], [1, 2, 1, 2, 2, 0]])

    def test_begins_in_the_middle(self):
        self.assertEqual(ask(*copies([1], [2], [2]), shared(0), BEGINS, shared(0), copy(1), shared(0))[3:],
                         [[1, 2, 1, 2, 1, 0], [0], [-6], [0], [0, 0]])

    def test_eight_copies_of_60_words(self):
        sets = [(1, 2, 3, 4), (5, 6, 7), (1, 2)] * 20
        self.assertEqual(last(*rows_with(60, 8, *sets), shared(0)),
                         [3, 4, 1, 2, 3, 4, 20, 3, 5, 6, 7, 20, 2, 1, 2, 20, 0])


class Sets(unittest.TestCase):
    def test_a_reading_of_one_copy_is_none(self):
        self.assertEqual(last(*copies([1], [2], [3]), shared(0)), [0, 0])
        self.assertEqual(last(*copies([1], [2]), shared(0)), [0, 0])

    def test_the_bases_reading_is_none(self):
        self.assertEqual(last(*copies([1], [1], [1], [2]), shared(0)), [0, 0])
        self.assertEqual(last(*copies([1], [1], [1], [2]), shared(3)), [1, 3, 0, 1, 2, 1, 0])

    def test_all_copies_but_the_base(self):
        self.assertEqual(last(*copies([1], [2], [2], [2]), shared(0)), [1, 3, 1, 2, 3, 1, 0])
        self.assertEqual(last(*copies([2], [2], [1], [2]), shared(2)), [1, 3, 0, 1, 3, 1, 0])

    def test_in_several_places(self):
        self.assertEqual(last(*rows_with(5, 4, (1, 2), (1, 3), (1, 2), (), (1, 2)), shared(0)),
                         [2, 2, 1, 2, 3, 2, 1, 3, 1, 1, 0, 1])

    def test_words_left_out_and_put_in(self):
        self.assertEqual(last(*copies([1, 2, 3, 5, 6], [1, 3, 5, 6], [1, 3, 5, 6, 4], [1, 2, 3, 5, 6, 4]), shared(0)),
                         [2, 2, 1, 2, 1, 2, 2, 3, 1, 1, 0, 1])

    def test_as_they_come_not_by_their_copies(self):
        self.assertEqual(last(*rows_with(3, 7, (5, 6), (3, 4), (1, 2)), shared(0)),
                         [3, 2, 5, 6, 1, 2, 3, 4, 1, 2, 1, 2, 1, 0])

    def test_a_longer_reading_counts_once(self):
        self.assertEqual(last(*copies([1, 2], [1, 7, 8, 9, 2], [1, 7, 8, 9, 2]), shared(0)), [1, 2, 1, 2, 1, 0])


class Clashes(unittest.TestCase):
    def told(self, many, *sets):
        """What is told behind the sets."""
        numbers = last(*rows_with(len(sets), many, *sets), shared(0))
        at = 1
        for number in range(numbers[0]):
            at += numbers[at] + 2
        return numbers[at:]

    def test_some_in_common_and_some_apart(self):
        self.assertEqual(self.told(4, (1, 2), (2, 3)), [1, 0, 1])
        self.assertEqual(self.told(6, (1, 2, 3, 4), (4, 5)), [1, 0, 1])
        self.assertEqual(self.told(6, (4, 5), (1, 2, 3, 4)), [1, 0, 1])

    def test_one_within_another(self):
        self.assertEqual(self.told(4, (1, 2, 3), (1, 2)), [0])
        self.assertEqual(self.told(4, (2, 3), (1, 2, 3)), [0])
        self.assertEqual(self.told(8, (1, 2), (1, 2, 3), (1, 2, 3, 4), (1, 2, 3, 4, 5, 6, 7)), [0])

    def test_nothing_in_common(self):
        self.assertEqual(self.told(5, (1, 2), (3, 4)), [0])
        self.assertEqual(self.told(7, (5, 6), (1, 2), (3, 4)), [0])

    def test_a_tree(self):
        self.assertEqual(self.told(8, (1, 2), (1, 2, 3), (5, 6), (5, 6, 7), (1, 2, 3, 4)), [0])

    def test_one_set_in_several_places_does_not_clash_with_itself(self):
        self.assertEqual(self.told(4, (1, 2), (1, 2), (1, 2)), [0])

    def test_the_first_ones_number_counts_first(self):
        # 1 with 2 clash, and so do 0 with 3.
        self.assertEqual(self.told(8, (1, 2), (4, 5), (5, 6), (2, 3)), [1, 0, 3])

    def test_of_several_with_one_the_first(self):
        self.assertEqual(self.told(8, (1, 2), (3, 4), (2, 5), (1, 6)), [1, 0, 2])

    def test_the_first_clashes_with_none(self):
        self.assertEqual(self.told(8, (1, 2), (3, 4), (6, 7), (4, 5), (5, 6)), [1, 1, 3])

    def test_the_last_two(self):
        self.assertEqual(self.told(8, (1, 2), (3, 4), (5, 6), (6, 7)), [1, 2, 3])

    def test_numbers_are_those_of_sets_not_of_places(self):
        self.assertEqual(self.told(8, (1, 2), (3,), (1, 2), (4, 5), (5, 6)), [1, 1, 2])


class Edges(unittest.TestCase):
    def test_one_copy_alone(self):
        self.assertEqual(ask(copy(1, 2), shared(0)), [[0], [0, 0]])
        self.assertEqual(ask(copy(), shared(0)), [[0], [0, 0]])

    def test_no_place(self):
        self.assertEqual(last(*copies([1, 2], [1, 2], [1, 2]), shared(1)), [0, 0])

    def test_empty_base(self):
        self.assertEqual(last(*copies([], [1, 2], [3], [1, 2], []), shared(0)), [1, 2, 1, 3, 1, 0])

    def test_empty_copies(self):
        self.assertEqual(last(*copies([1, 2], [], []), shared(0)), [1, 2, 1, 2, 2, 0])


def shared_by_words(places, everyone):
    """What shared answers by the document's words, from what apparatus tells."""
    changes = [set(holders) for place in places for words, holders in place[2][1:]
               if len(holders) >= 2 and set(holders) != set(everyone)]
    sets = [one for k, one in enumerate(changes) if one not in changes[:k]]
    numbers = [len(sets)]
    for one in sets:
        numbers += [len(one), *sorted(one), changes.count(one)]
    clashing = [[a, b] for a in range(len(sets)) for b in range(len(sets))
                if sets[a] & sets[b] and sets[a] - sets[b] and sets[b] - sets[a]]
    return numbers + ([1] + min(clashing) if clashing else [0])


class ByTheWords(unittest.TestCase):
    def test_every_base(self):
        clashing = 0
        for u, rows, ahead in each_base():
            told = ask(*ahead, apparatus(u), shared(u))[len(ahead):]
            expected = shared_by_words(places_told(told[0]), range(len(rows)))
            clashing += len(expected) > 4 and expected[-3] == 1
            self.assertEqual(told[1], expected, (u, rows))
        self.assertGreater(clashing, 0)


class Refusals(unittest.TestCase):
    def test_no_such_copy(self):
        for missing in (3, 4, 8, GREATEST):
            self.assertEqual(ask(*copies([1], [2], [2]), shared(missing), shared(0))[3:],
                             [[-6], [1, 2, 1, 2, 1, 0]], missing)

    def test_no_copies(self):
        self.assertEqual(ask(shared(0), shared(GREATEST)), [[-6], [-6]])


if __name__ == "__main__":
    unittest.main()

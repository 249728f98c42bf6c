"""stories: the cheapest ones, how many they are, the first of them."""

import itertools
import unittest

from helper import BEGINS, COSTS, GATHERINGS, STORIES, ask, beside, copies, copy, costs, last


class Ordinary(unittest.TestCase):
    def test_a_chain(self):
        # 0 has 1 for its source or the other way round; 2 has 1; there and back cost the same.
        rows = copies([1, 2, 3], [1, 2, 4], [1, 5, 4])
        self.assertEqual(last(*rows, STORIES), [4, 3, 0, 0, 1])

    def test_a_star(self):
        rows = copies([1, 2, 9], [9, 2, 3], [1, 2, 3], [1, 9, 3])
        self.assertEqual(last(*rows, STORIES), [6, 4, 0, 2, 0, 2])

    def test_the_first_is_told_by_its_own_number(self):
        rows = copies([1], [1, 2], [1, 2, 3])
        self.assertEqual(last(costs(9, 1, 5), *rows, STORIES), [2, 1, 1, 2, 2])
        self.assertEqual(last(costs(9, 5, 1), *rows, STORIES), [2, 1, 0, 0, 1])

    def test_out_and_into_unlike(self):
        rows = copies([1, 2], [1], [1, 2, 3, 4])
        self.assertEqual(ask(*rows, STORIES, costs(9, 3, 7), STORIES, costs(9, 7, 3), STORIES)[3:],
                         [[6, 3, 0, 0, 0], [0], [9, 1, 2, 0, 2], [0], [9, 1, 1, 1, 0]])

    def test_by_the_way_from_the_source_to_its_copy(self):
        rows = copies([1, 2, 3], [])
        self.assertEqual(ask(*rows, costs(1, 1, 2), STORIES, costs(1, 2, 1), STORIES)[3:],
                         [[3, 1, 0, 0], [0], [3, 1, 1, 1]])

    def test_no_copies_that_are_only_one_anothers_sources(self):
        # Cheapest for each by itself would be 0 and 1, 2 and 3 of one another.
        rows = copies([1, 2, 3, 4], [1, 2, 3, 5], [11, 12, 13, 14], [11, 12, 13, 15])
        self.assertEqual(last(*rows, STORIES)[:2], [12, 16])
        self.assertEqual(last(*rows, STORIES)[2:], [0, 0, 0, 2])

    def test_begins_in_the_middle(self):
        half = [*copies([1], [1, 2]), costs(9, 1, 5), STORIES]
        self.assertEqual(ask(*half, BEGINS, STORIES, *copies([1], [1, 2]), STORIES),
                         [[0], [1], [0], [1, 1, 1, 1], [0], [-6], [0], [1], [2, 2, 0, 0]])


class Edges(unittest.TestCase):
    def test_one_copy_alone(self):
        self.assertEqual(ask(copy(1, 2), STORIES), [[0], [0, 1, 0]])
        self.assertEqual(ask(copy(), STORIES), [[0], [0, 1, 0]])

    def test_two_copies(self):
        self.assertEqual(last(*copies([1], [2]), STORIES), [2, 2, 0, 0])

    def test_all_the_same(self):
        # Every story costs 0: there are as many as trees with one of their points first.
        for many, trees in ((1, 1), (2, 2), (3, 9), (4, 64), (5, 625)):
            self.assertEqual(last(*copies(*[[1, 2]] * many), STORIES), [0, trees] + [0] * many)
            self.assertEqual(last(*copies(*[[]] * many), STORIES), [0, trees] + [0] * many)

    def test_empty_copies_among_others(self):
        self.assertEqual(last(costs(5, 1, 3), *copies([], [1], []), STORIES), [1, 2, 1, 1, 0])

    def test_five_copies(self):
        # Each one has the words of the one before it and one more.
        rows = copies(*[list(range(1, many)) for many in range(1, 6)])
        self.assertEqual(last(costs(100, 1, 2), *rows, STORIES), [4, 1, 1, 2, 3, 4, 4])
        self.assertEqual(last(costs(100, 2, 1), *rows, STORIES), [4, 1, 0, 0, 1, 2, 3])

    def test_five_copies_of_60_words(self):
        rows = [[k + 1 if k >= 12 * v else 1000 + k for k in range(60)] for v in range(5)]
        self.assertEqual(last(*copies(*rows), STORIES), [96, 5, 0, 0, 1, 2, 3])

    def test_three_in_one_list(self):
        self.assertEqual(ask(*copies([1], [2]), STORIES, STORIES, copy(2), STORIES)[2:],
                         [[2, 2, 0, 0], [2, 2, 0, 0], [2], [2, 6, 0, 0, 1]])

    def test_changes_nothing(self):
        rows = copies([1, 2], [2, 3])
        self.assertEqual(ask(*rows, STORIES, copy(3), beside(0, 1))[3:], ask(*rows, copy(3), beside(0, 1))[2:])


def below(source, sources, seen):
    """The copies that have come from this one, in however many steps, with itself."""
    seen = seen | {source}
    for copy_number, its_source in enumerate(sources):
        if its_source == source and copy_number not in seen:
            seen = below(copy_number, sources, seen)
    return seen


def all_stories(many):
    """By the document's words: found from the first downwards, where the program goes up from source to source."""
    found = []
    for sources in itertools.product(range(many), repeat=many):
        firsts = [v for v in range(many) if sources[v] == v]
        if len(firsts) == 1 and below(firsts[0], sources, frozenset()) == set(range(many)):
            found.append(list(sources))
    return found


class AgainstAllStories(unittest.TestCase):
    def test_many_gatherings(self):
        stories = {many: all_stories(many) for many in range(1, 6)}
        for rows, three in itertools.product(GATHERINGS, COSTS):
            for some in (rows[:5], rows[3:8][::-1]):
                if some:
                    self.check(some, three, stories[len(some)])

    def check(self, rows, three, stories):
        ahead = [costs(*three)] + copies(*rows)
        everyone = range(len(rows))
        told = ask(*ahead, STORIES, *[beside(u, v) for u in everyone for v in everyone])[len(ahead):]
        price = {(u, v): told[1 + u * len(rows) + v][0] for u in everyone for v in everyone}
        totals = [sum(price[sources[v], v] for v in everyone if sources[v] != v) for sources in stories]
        cheapest = [sources for sources, total in zip(stories, totals) if total == min(totals)]
        self.assertEqual(told[0], [min(totals), len(cheapest)] + min(cheapest), (rows, three))


class Refusals(unittest.TestCase):
    def test_no_copies(self):
        self.assertEqual(ask(STORIES, copy(0), STORIES, copy(1), STORIES), [[-6], [-1], [-6], [0], [0, 1, 0]])

    def test_more_than_five(self):
        for many in (6, 7, 8):
            rows = copies(*[[k] for k in range(1, many + 1)])
            self.assertEqual(ask(*rows, STORIES)[many:], [[-5]], many)

    def test_five_are_told_and_six_are_not(self):
        rows = copies(*[[k] for k in range(1, 6)])
        self.assertEqual(ask(*rows, STORIES, copy(6), STORIES, beside(5, 5))[5:],
                         [[8, 625, 0, 0, 0, 0, 0], [5], [-5], [0, 1, 0, 6, 6]])

    def test_three_refused_in_one_list(self):
        self.assertEqual(ask(STORIES, STORIES, STORIES, copy(1)), [[-6], [-6], [-6], [0]])
        eight = copies(*[[k] for k in range(1, 9)])
        self.assertEqual(ask(*eight, STORIES, STORIES, STORIES)[8:], [[-5], [-5], [-5]])


if __name__ == "__main__":
    unittest.main()

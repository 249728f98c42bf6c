"""What the tests share: calls written as lists, answers taken apart."""

from copyladder.desk import answers

GREATEST = 4294967295

BEGINS = [0]


def copy(*words):
    return [1, len(words), *words]


def costs(other, out, into):
    return [2, other, out, into]


def beside(u, v):
    return [3, u, v]


def apparatus(u):
    return [4, u]


def chosen(u, *readings):
    return [5, u, len(readings), *readings]


def own(u, w):
    return [6, u, w]


def most(u):
    return [7, u]


def agree(u):
    return [8, u]


STORIES = [9]


def shared(u):
    return [10, u]


def copies(*rows):
    return [copy(*row) for row in rows]


def taken_apart(numbers):
    """The answers of the calls, one list each; what stands before them as their length is checked."""
    found = []
    at = 0
    while at < len(numbers):
        end = at + 1 + numbers[at]
        assert numbers[at] >= 1 and end <= len(numbers), numbers
        found.append(numbers[at + 1:end])
        at = end
    return found


def ask(*calls):
    """What each of these calls answers."""
    found = taken_apart(answers([number for call in calls for number in call]))
    assert len(found) == len(calls), found
    return found


def last(*calls):
    """What the last of these calls answers."""
    return ask(*calls)[-1]


def all_ways(first, second):
    """Every way from one row to another, by the document's words, as a list of steps."""
    if not first and not second:
        return [[]]
    found = []
    if first and second:
        found += [[(0, first[0], second[0])] + way for way in all_ways(first[1:], second[1:])]
    if first:
        found += [[(1, first[0], 0)] + way for way in all_ways(first[1:], second)]
    if second:
        found += [[(2, 0, second[0])] + way for way in all_ways(first, second[1:])]
    return found


def cost_of(way, three_costs):
    other, out, into = three_costs
    return sum((other if a != b else 0, out, into)[kind] for kind, a, b in way)


def the_way(first, second, three_costs):
    """The cheapest of all ways, of several the first, found by going through all of them."""
    return min(all_ways(first, second),
               key=lambda way: (cost_of(way, three_costs), [kind for kind, a, b in way]))


def places_told(numbers):
    """An answer of apparatus as a list of (before, held, [(words, holders), ..])."""
    rest = list(numbers)

    def take():
        return rest.pop(0)

    found = []
    for place in range(take()):
        before, held, many = take(), take(), take()
        readings = []
        for reading in range(many):
            words = [take() for k in range(take())]
            holders = [take() for k in range(take())]
            readings.append((words, holders))
        found.append((before, held, readings))
    assert not rest, numbers
    return found


# Gatherings that tests of several calls go through, each under each of the costs.
GATHERINGS = (
    ([1, 2, 3],),
    ([],),
    ([4, 5], [4, 5], [4, 5]),
    ([], [1, 2], [], [1, 2], [1]),
    ([1, 2, 3], [2, 3, 1], [3, 1, 2], [1, 3]),
    ([1, 1, 2], [1, 2, 2], [2, 1], [], [2, 2, 1, 1]),
    ([1, 2, 3, 4], [1, 9, 3], [7, 1, 9, 3, 4], [4, 3, 2, 1], []),
    ([1, 2, 3, 4], [5, 2, 3, 4], [5, 6, 3, 4], [1, 6, 7, 4], [1, 2, 7, 8], [5, 6, 7, 8]),
    ([1, 2, 1, 2, 1], [2, 1, 2], [1, 1, 1, 2, 2, 2], [3, 3], [1, 2, 1, 2, 1]),
    (list(range(1, 61)), list(range(2, 62)), list(range(60, 0, -1)), [7] * 60, list(range(1, 61, 2)),
     [k % 5 + 1 for k in range(60)], [k * k % 11 + 1 for k in range(55)], [99999]),
    tuple([k + 1 if k % 5 < 2 or (k + v) % 3 else 1000 + k for k in range(60)] for v in (0, 1, 2, 3, 4, 5, 6, 0)),
)
COSTS = ((2, 2, 2), (100, 1, 1), (1, 100, 100), (3, 2, 1), (3, 1, 2))


def each_base():
    """Each gathering with each base and each three costs, with the calls that make it ahead."""
    for rows in GATHERINGS:
        # Long copies take long: fewer costs for them.
        for three in COSTS[::2] if len(rows[0]) == 60 else COSTS:
            for u in range(len(rows)):
                yield u, rows, [costs(*three)] + copies(*rows)


def number_of(place, v):
    """The number of the reading that this copy has in a place of places_told; it has just one."""
    found = [number for number, (words, holders) in enumerate(place[2]) if v in holders]
    assert len(found) == 1, place
    return found[0]

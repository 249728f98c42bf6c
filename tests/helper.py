"""What the tests share: calls written as lists, answers taken apart."""

from copyladder.desk import answers

GREATEST = 4294967295

BEGINS = [0]


def copy(*words):
    return [1, len(words), *words]


def costs(other, out, into):
    return [2, other, out, into]


def beside(u, v):
    return [3, u, v]


def apparatus(u):
    return [4, u]


def chosen(u, *readings):
    return [5, u, len(readings), *readings]


def copies(*rows):
    return [copy(*row) for row in rows]


def taken_apart(numbers):
    """The answers of the calls, one list each; what stands before them as their length is checked."""
    found = []
    at = 0
    while at < len(numbers):
        end = at + 1 + numbers[at]
        assert numbers[at] >= 1 and end <= len(numbers), numbers
        found.append(numbers[at + 1:end])
        at = end
    return found


def ask(*calls):
    """What each of these calls answers."""
    found = taken_apart(answers([number for call in calls for number in call]))
    assert len(found) == len(calls), found
    return found


def last(*calls):
    """What the last of these calls answers."""
    return ask(*calls)[-1]


def all_ways(first, second):
    """Every way from one row to another, by the document's words, as a list of steps."""
    if not first and not second:
        return [[]]
    found = []
    if first and second:
        found += [[(0, first[0], second[0])] + way for way in all_ways(first[1:], second[1:])]
    if first:
        found += [[(1, first[0], 0)] + way for way in all_ways(first[1:], second)]
    if second:
        found += [[(2, 0, second[0])] + way for way in all_ways(first, second[1:])]
    return found


def cost_of(way, three_costs):
    other, out, into = three_costs
    return sum((other if a != b else 0, out, into)[kind] for kind, a, b in way)


def the_way(first, second, three_costs):
    """The cheapest of all ways, of several the first, found by going through all of them."""
    return min(all_ways(first, second),
               key=lambda way: (cost_of(way, three_costs), [kind for kind, a, b in way]))


def places_told(numbers):
    """An answer of apparatus as a list of (before, held, [(words, holders), ..])."""
    rest = list(numbers)

    def take():
        return rest.pop(0)

    found = []
    for place in range(take()):
        before, held, many = take(), take(), take()
        readings = []
        for reading in range(many):
            words = [take() for k in range(take())]
            holders = [take() for k in range(take())]
            readings.append((words, holders))
        found.append((before, held, readings))
    assert not rest, numbers
    return found

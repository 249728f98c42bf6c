"""One gathering of copies, and the calls on it. Each call gives back the list of numbers it answers."""

from copyladder.changes import first_clash, shared_sets
from copyladder.places import are_readings, find_places, places_alike, readings_of, words_chosen
from copyladder.stories import cheapest_stories
from copyladder.ways import Costs, find_way, way_cost

WRONG = -1
FULL = -5
MISSING = -6

MOST_COPIES = 8
MOST_FOR_STORIES = 5
MOST_WORDS = 60
GREATEST_WORD = 99999
GREATEST_COST = 100


def first_costs():
    return Costs(2, 2, 2)


def are_words(numbers):
    if len(numbers) > MOST_WORDS:
        return False
    return all([1 <= number <= GREATEST_WORD for number in numbers])


def is_cost(number):
    return 1 <= number <= GREATEST_COST


# What apparatus answers of one place.
def place_numbers(place):
    numbers = [place.before, place.held, len(place.readings)]
    for number, words in enumerate(place.readings):
        holders = place.holders(number)
        numbers.append(len(words))
        numbers.extend(words)
        numbers.append(len(holders))
        numbers.extend(holders)
    return numbers


# What shared answers of whether two sets clash.
def clash_numbers(sets):
    two = first_clash(sets)
    if two is None:
        return [0]
    return [1, two[0], two[1]]


class Gathering:
    def __init__(self):
        self.copies = []
        self.costs = first_costs()

    def begins(self):
        self.copies = []
        self.costs = first_costs()
        return [0]

    def take_copy(self, words):
        if not are_words(words):
            return [WRONG]
        if len(self.copies) == MOST_COPIES:
            return [FULL]
        self.copies.append(list(words))
        return [len(self.copies) - 1]

    def set_costs(self, other, out, into):
        if not (is_cost(other) and is_cost(out) and is_cost(into)):
            return [WRONG]
        self.costs = Costs(other, out, into)
        return [0]

    def has_copy(self, number):
        return number < len(self.copies)

    def beside(self, u, v):
        if not (self.has_copy(u) and self.has_copy(v)):
            return [MISSING]
        steps = find_way(self.copies[u], self.copies[v], self.costs)
        numbers = [way_cost(steps, self.costs), len(steps)]
        for step in steps:
            numbers.extend(step)
        return numbers

    def places_of(self, u):
        return find_places(self.copies, u, self.costs)

    def apparatus(self, u):
        if not self.has_copy(u):
            return [MISSING]
        places = self.places_of(u)
        numbers = [len(places)]
        for place in places:
            numbers.extend(place_numbers(place))
        return numbers

    def chosen(self, u, readings):
        if not self.has_copy(u):
            return [MISSING]
        places = self.places_of(u)
        if not are_readings(readings, places):
            return [WRONG]
        words = words_chosen(self.copies[u], places, readings)
        return [len(words)] + words

    def own(self, u, w):
        if not (self.has_copy(u) and self.has_copy(w)):
            return [MISSING]
        places = self.places_of(u)
        return [len(places)] + readings_of(places, w)

    def most(self, u):
        if not self.has_copy(u):
            return [MISSING]
        places = self.places_of(u)
        readings = [place.most_held() for place in places]
        words = words_chosen(self.copies[u], places, readings)
        return [len(words)] + words + readings

    def agree(self, u):
        if not self.has_copy(u):
            return [MISSING]
        places = self.places_of(u)
        numbers = [len(places)]
        for v in range(len(self.copies)):
            numbers.extend([places_alike(places, v, w) for w in range(len(self.copies))])
        return numbers

    def stories(self):
        if not self.copies:
            return [MISSING]
        if len(self.copies) > MOST_FOR_STORIES:
            return [FULL]
        cheapest = cheapest_stories(self.copies, self.costs)
        return [cheapest[0], cheapest[1]] + cheapest[2]

    def shared(self, u):
        if not self.has_copy(u):
            return [MISSING]
        sets = shared_sets(self.places_of(u))
        numbers = [len(sets)]
        for holders, times in sets.items():
            numbers.append(len(holders))
            numbers.extend(holders)
            numbers.append(times)
        return numbers + clash_numbers(list(sets))

"""The places of a base where some copy differs from it, and their readings."""

from copyladder.ways import LEFT_OUT, PUT_IN, find_way


# A run of varied slots.
# before: how many of the base's words stand before it; held: how many it has;
# readings: rows of words, the base's first; by_copy: the number of each copy's reading.
class Place:
    def __init__(self, before, held, readings, by_copy):
        self.before = before
        self.held = held
        self.readings = readings
        self.by_copy = by_copy

    def holders(self, number):
        return [v for v in range(len(self.by_copy)) if self.by_copy[v] == number]

    # The number of the reading that most copies have, of as many the first.
    def most_held(self):
        counts = [self.by_copy.count(number) for number in range(len(self.readings))]
        return counts.index(max(counts))


# What a copy has in each slot of the base, by the way from the base to it.
# The slot with number 2 * i is ahead of the base's word i (the last one behind all words),
# that with number 2 * i + 1 is in the word's place.
def slots_along(steps):
    slots = [[]]
    for step in steps:
        if step[0] == PUT_IN:
            slots[-1].append(step[2])
        else:
            slots.append([] if step[0] == LEFT_OUT else [step[2]])
            slots.append([])
    return slots


def is_varied(table, u, slot):
    for slots in table:
        if slots[slot] != table[u][slot]:
            return True
    return False


# The longest runs of varied slots, each as its first slot and the one behind its last.
def varied_runs(table, u):
    runs = []
    for slot in range(len(table[u])):
        if is_varied(table, u, slot):
            if runs and runs[-1][1] == slot:
                runs[-1] = (runs[-1][0], slot + 1)
            else:
                runs.append((slot, slot + 1))
    return runs


def words_within(slots, start, end):
    words = []
    for some in slots[start:end]:
        words.extend(some)
    return words


def place_of_run(table, u, start, end):
    texts = [words_within(slots, start, end) for slots in table]
    readings = [texts[u]]
    for words in texts:
        if words not in readings:
            readings.append(words)
    by_copy = [readings.index(words) for words in texts]
    # Of the slots those with odd numbers are words' places: ahead of slot k there are k // 2 of them.
    return Place(start // 2, end // 2 - start // 2, readings, by_copy)


# The base needs no case of its own: the way to itself pairs each word with itself,
# since nothing else costs 0.
def find_places(copies, u, costs):
    table = [slots_along(find_way(copies[u], words, costs)) for words in copies]
    return [place_of_run(table, u, run[0], run[1]) for run in varied_runs(table, u)]


# Whether there is a number for each place, and each is that of one of its readings.
def are_readings(numbers, places):
    if len(numbers) != len(places):
        return False
    for place, number in zip(places, numbers):
        if number >= len(place.readings):
            return False
    return True


# The base's words with the readings of these numbers in its places.
def words_chosen(base, places, numbers):
    words = []
    at = 0
    for place, number in zip(places, numbers):
        words.extend(base[at:place.before])
        words.extend(place.readings[number])
        at = place.before + place.held
    words.extend(base[at:])
    return words


# The number of a copy's reading in each place.
def readings_of(places, w):
    return [place.by_copy[w] for place in places]


# In how many places two copies have the same reading.
def places_alike(places, v, w):
    return len([place for place in places if place.by_copy[v] == place.by_copy[w]])

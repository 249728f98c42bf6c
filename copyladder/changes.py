"""The changes that copies share, and whether the sets of copies fit one tree."""


# The sets of copies that share a change, rising tuples, as they come; to each in how many places' readings.
# That none is of all copies needs no question: the base itself has another reading, its own, number 0.
def shared_sets(places):
    sets = {}
    for place in places:
        for number in range(1, len(place.readings)):
            holders = tuple(place.holders(number))
            if len(holders) > 1:
                sets[holders] = sets.get(holders, 0) + 1
    return sets


def clash(one, another):
    common = len([v for v in one if v in another])
    return 0 < common < min(len(one), len(another))


# The numbers of the first two sets that clash; None if no two do.
def first_clash(sets):
    for i in range(len(sets)):
        for j in range(i + 1, len(sets)):
            if clash(sets[i], sets[j]):
                return (i, j)
    return None

"""The stories by which copies may have come from one another, and the cheapest of them."""

from copyladder.ways import find_way, way_cost


# Every row that tells some copy as each copy's source, in the order in which stories are told.
def source_rows(many):
    rows = [[]]
    for told in range(many):
        longer = []
        for row in rows:
            longer.extend([row + [source] for source in range(many)])
        rows = longer
    return rows


# A walk of as many steps as there are copies either has come to the first and stays there,
# or goes round among others and never will.
def comes_to(first, v, sources):
    at = v
    for step in range(len(sources)):
        at = sources[at]
    return at == first


def is_story(sources):
    firsts = [v for v in range(len(sources)) if sources[v] == v]
    if len(firsts) != 1:
        return False
    return all([comes_to(firsts[0], v, sources) for v in range(len(sources))])


def costs_from(source, copies, costs):
    return [way_cost(find_way(source, words, costs), costs) for words in copies]


# The first copy needs no case of its own: the way to itself costs 0.
def story_cost(sources, table):
    return sum([table[source][v] for v, source in enumerate(sources)])


# What the cheapest stories cost, how many there are, and the first of them.
def cheapest_stories(copies, costs):
    table = [costs_from(words, copies, costs) for words in copies]
    stories = [row for row in source_rows(len(copies)) if is_story(row)]
    totals = [story_cost(sources, table) for sources in stories]
    least = min(totals)
    return (least, totals.count(least), stories[totals.index(least)])

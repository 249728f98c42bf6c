"""The way from one copy to another: the cheapest, and of several the first."""

PAIR = 0
LEFT_OUT = 1
PUT_IN = 2


# What it costs that a word is another, is left out, is put in.
class Costs:
    def __init__(self, other, out, into):
        self.other = other
        self.out = out
        self.into = into


def pair_cost(word, beside_it, costs):
    return 0 if word == beside_it else costs.other


# One row of the table of rest_costs: that of a word of the first copy, out of the next word's row.
def rest_row(word, second, below, costs):
    end = len(second)
    row = [0] * (end + 1)
    row[end] = below[end] + costs.out
    for j in range(end - 1, -1, -1):
        paired = below[j + 1] + pair_cost(word, second[j], costs)
        row[j] = min(paired, below[j] + costs.out, row[j + 1] + costs.into)
    return row


# A table: at [i][j] what the cheapest way from first[i:] to second[j:] costs.
# It tells of the rests, not of the beginnings, since of the cheapest ways the first
# is asked for: its steps are chosen from the front.
def rest_costs(first, second, costs):
    rows = [[costs.into * (len(second) - j) for j in range(len(second) + 1)]]
    for word in reversed(first):
        rows.append(rest_row(word, second, rows[-1], costs))
    rows.reverse()
    return rows


# The first step of the way from first[i:] to second[j:], which are not both empty.
def step_at(table, first, second, i, j, costs):
    cheapest = table[i][j]
    if i < len(first) and j < len(second):
        if cheapest == table[i + 1][j + 1] + pair_cost(first[i], second[j], costs):
            return (PAIR, first[i], second[j])
    if i < len(first) and cheapest == table[i + 1][j] + costs.out:
        return (LEFT_OUT, first[i], 0)
    return (PUT_IN, 0, second[j])


# The way's steps, each with its kind, the first copy's word and the second's (0 for none).
def find_way(first, second, costs):
    table = rest_costs(first, second, costs)
    steps = []
    i = 0
    j = 0
    while i < len(first) or j < len(second):
        step = step_at(table, first, second, i, j, costs)
        steps.append(step)
        if step[0] != PUT_IN:
            i += 1
        if step[0] != LEFT_OUT:
            j += 1
    return steps


def way_cost(steps, costs):
    total = 0
    for step in steps:
        if step[0] == PAIR:
            total += pair_cost(step[1], step[2], costs)
        elif step[0] == LEFT_OUT:
            total += costs.out
        else:
            total += costs.into
    return total

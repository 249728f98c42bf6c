"""The calls of one list, taken and answered one behind another."""

from copyladder.gathering import Gathering

BEGINS = 0
COPY = 1
COSTS = 2
BESIDE = 3
APPARATUS = 4
CHOSEN = 5
OWN = 6
MOST = 7
AGREE = 8
STORIES = 9

# By a call's number: how many whole numbers stand behind it, and whether a row stands behind these.
WHOLE_NUMBERS = (0, 0, 3, 2, 1, 1, 2, 1, 1, 0, 1)
HAS_ROW = (False, True, False, False, False, True, False, False, False, False, False)


# Where the call that begins at this index ends.
def call_end(calls, at):
    number = calls[at]
    end = at + 1 + WHOLE_NUMBERS[number]
    if HAS_ROW[number]:
        end += 1 + calls[end]
    return end


# A call that tells a base and nothing else.
def answer_of_base(gathering, number, u):
    if number == APPARATUS:
        return gathering.apparatus(u)
    if number == MOST:
        return gathering.most(u)
    if number == AGREE:
        return gathering.agree(u)
    # Only shared is left: call_end has no place for any other number.
    return gathering.shared(u)


def answer(gathering, call):
    number = call[0]
    if number == BEGINS:
        return gathering.begins()
    if number == COPY:
        return gathering.take_copy(call[2:])
    if number == COSTS:
        return gathering.set_costs(call[1], call[2], call[3])
    if number == STORIES:
        return gathering.stories()
    if number == BESIDE:
        return gathering.beside(call[1], call[2])
    if number == CHOSEN:
        return gathering.chosen(call[1], call[3:])
    if number == OWN:
        return gathering.own(call[1], call[2])
    return answer_of_base(gathering, number, call[1])


# For each call how many numbers it answers, then these.
def answers(calls):
    gathering = Gathering()
    given = []
    at = 0
    while at < len(calls):
        end = call_end(calls, at)
        numbers = answer(gathering, calls[at:end])
        given.append(len(numbers))
        given.extend(numbers)
        at = end
    return given

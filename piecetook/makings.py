"""The calls on one object, read from a list of whole numbers, and their answers."""

from piecetook.workshop import Workshop

BEGIN = 0
TELL = 1
FORGET = 2
TOOK = 3
RUNS = 4

# By a call's number: how many numbers it has, its own with them, ahead of what is in its row.
LENGTHS = {0: 1, 1: 5, 2: 2, 3: 2, 4: 3, 5: 3}


def end_of_call(calls, start):
    end = start + LENGTHS[calls[start]]
    if calls[start] == TELL:
        return end + calls[end - 1]
    return end


def answer(workshop, call):
    if call[0] == BEGIN:
        return workshop.begin()
    if call[0] == TELL:
        return workshop.tell(call[1], call[2], call[3], call[5:])
    if call[0] == FORGET:
        return workshop.forget(call[1])
    if call[0] == TOOK:
        return workshop.took(call[1])
    if call[0] == RUNS:
        return workshop.runs(call[1], call[2])
    return workshop.let_out(call[1], call[2])


def answers(calls):
    workshop = Workshop()
    given = []
    start = 0
    while start < len(calls):
        end = end_of_call(calls, start)
        numbers = answer(workshop, calls[start:end])
        given.append(len(numbers))
        given.extend(numbers)
        start = end
    return given

"""The calls on one new object, read from one list; their answers, written to another."""

from flavourruns.replies import reply
from flavourruns.works import Works

# How many numbers a call is handed, by the call's number.
SIZES = (1, 3, 3, 1, 1, 1, 0, 0, 0)
# times alone tells in the list how many it is handed.
TIMES = 9


def answers(calls):
    works = Works()
    told = []
    at = 0
    while at < len(calls):
        number = calls[at]
        if number == TIMES:
            start = at + 2
            end = start + calls[at + 1]
        else:
            start = at + 1
            end = start + SIZES[number]
        answer = reply(works, number, calls[start:end])
        told.append(len(answer))
        told.extend(answer)
        at = end
    return told

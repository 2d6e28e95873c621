"""The calls on one new object, read from one list; their answers, written to another."""

from flavourruns.replies import reply
from flavourruns.works import Works

# How many numbers a call is handed, by the call's number; None: the list itself tells it ahead of them.
SIZES = (1, 3, 3, 1, 1, 1, 0, 0, 0, None, 3, 0, 0, 1, 2, 0, 1, 0, 0, 0)


def answers(calls):
    works = Works()
    told = []
    at = 0
    while at < len(calls):
        number = calls[at]
        start = at + 1
        size = SIZES[number]
        if size is None:
            size = calls[start]
            start += 1
        at = start + size
        answer = reply(works, number, calls[start:at])
        told.append(len(answer))
        told.extend(answer)
    return told

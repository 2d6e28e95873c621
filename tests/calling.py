"""The calls as they stand in the list that is handed in, and the answers call by call."""

from flavourruns.line import answers

MOST = 4294967295


def begin(n):
    return [0, n]


def change(f, g, m):
    return [1, f, g, m]


def job(f, m, d):
    return [2, f, m, d]


def drop(j):
    return [3, j]


def run(j):
    return [4, j]


def wait(n):
    return [5, n]


def best():
    return [6]


def fewest():
    return [7]


def least():
    return [8]


def times(*jobs):
    return [9, len(jobs)] + list(jobs)


def would(f, m, d):
    return [10, f, m, d]


def ring():
    return [11]


def hopeless():
    return [12]


def soon(j):
    return [13, j]


def turn(f, g):
    return [14, f, g]


def open_jobs():
    return [15]


def look(j):
    return [16, j]


def done():
    return [17]


def sums():
    return [18]


def state():
    return [19]


def all_told(flavours=7, jobs=40):
    """Every call that only tells, at every flavour and job."""
    pairs = [(f, g) for f in range(flavours) for g in range(flavours)]
    calls = [state(), open_jobs(), done(), sums(), best(), fewest(), least(), ring(), hopeless(), would(0, 1, 0)]
    calls += [turn(f, g) for f, g in pairs]
    for number in range(jobs):
        calls += [look(number), soon(number), times(number)]
    return calls


def flat(calls):
    return [number for call in calls for number in call]


def split(told):
    """One list for each call; the counts must come out even with what is told."""
    parts = []
    at = 0
    while at < len(told):
        count = told[at]
        part = told[at + 1:at + 1 + count]
        if count < 1 or len(part) != count:
            raise AssertionError(f"count {count} at {at} of {told}")
        parts.append(part)
        at += 1 + count
    return parts


def told(*calls):
    parts = split(answers(flat(calls)))
    if len(parts) != len(calls):
        raise AssertionError(f"{len(calls)} calls, {len(parts)} answers")
    return parts


def last(*calls):
    return told(*calls)[-1]

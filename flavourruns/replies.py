"""What each call does, and the list of what it answers: a refusal stands in it alone."""

from flavourruns.orders import best_way, ends_in_order
from flavourruns.works import Job

NONE_SUCH = -2
NOT_BEGUN = -11
OUT_OF_RANGE = -22
TOO_MANY = -28

MOST_FLAVOURS = 7
MOST_CHANGE_MINUTES = 500
MOST_JOB_MINUTES = 1000
MOST_DUE = 1000000
MOST_OPEN = 7
MOST_JOBS = 40
MOST_WAIT = 1000

BEGIN = 0


def begin(works, given):
    flavours = given[0]
    if flavours < 1 or flavours > MOST_FLAVOURS:
        return [OUT_OF_RANGE]
    works.restart(flavours)
    return [0]


def change(works, given):
    before = given[0]
    after = given[1]
    minutes = given[2]
    if not (works.has_flavour(before) and works.has_flavour(after)):
        return [NONE_SUCH]
    if before == after or minutes > MOST_CHANGE_MINUTES:
        return [OUT_OF_RANGE]
    were = works.changes[before][after]
    works.changes[before][after] = minutes
    return [were]


def add_job(works, given):
    flavour = given[0]
    minutes = given[1]
    due = given[2]
    if not works.has_flavour(flavour):
        return [NONE_SUCH]
    if minutes < 1 or minutes > MOST_JOB_MINUTES or due > MOST_DUE:
        return [OUT_OF_RANGE]
    number = len(works.jobs)
    if len(works.to_run) == MOST_OPEN or number == MOST_JOBS:
        return [TOO_MANY]
    works.jobs.append(Job(flavour, minutes, due))
    works.to_run.append(number)
    return [number]


def drop(works, given):
    number = given[0]
    if not works.is_open(number):
        return [NONE_SUCH]
    works.to_run.remove(number)
    return [len(works.to_run)]


def run(works, given):
    number = given[0]
    if not works.is_open(number):
        return [NONE_SUCH]
    job = works.jobs[number]
    change_took = works.change_minutes(works.loaded, job.flavour)
    works.to_run.remove(number)
    works.minute += change_took + job.minutes
    works.loaded = job.flavour
    return [works.minute, change_took, job.lateness(works.minute)]


def wait(works, given):
    minutes = given[0]
    if minutes < 1 or minutes > MOST_WAIT:
        return [OUT_OF_RANGE]
    works.minute += minutes
    return [works.minute]


def nothing(late):
    return 0


def one_if_late(late):
    return 1 if late > 0 else 0


def minutes_late(late):
    return late


def best(works, given):
    way = best_way(works, nothing)
    return [way[1]] + list(way[2])


def fewest(works, given):
    way = best_way(works, one_if_late)
    return [way[0], way[1]] + list(way[2])


def least(works, given):
    way = best_way(works, minutes_late)
    return [way[0], way[1]] + list(way[2])


def times(works, given):
    if len(set(given)) < len(given):
        return [OUT_OF_RANGE]
    if not all([works.is_open(number) for number in given]):
        return [NONE_SUCH]
    ends = ends_in_order(works, given)
    late = [number for number, end in zip(given, ends) if works.jobs[number].lateness(end) > 0]
    return [len(late)] + ends


# A call's number is its place here.
REPLIES = (begin, change, add_job, drop, run, wait, best, fewest, least, times)


def reply(works, number, given):
    if number != BEGIN and not works.has_begun():
        return [NOT_BEGUN]
    return REPLIES[number](works, given)

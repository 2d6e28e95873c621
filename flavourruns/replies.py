"""What each call does, and the list of what it answers: a refusal stands in it alone."""

from flavourruns.orders import best_way, ends_in_order
from flavourruns.rings import best_ring
from flavourruns.works import Job, Run

NONE_SUCH = -2
NOT_BEGUN = -11
OUT_OF_RANGE = -22
TOO_MANY = -28

MOST_FLAVOURS = 7
MOST_CHANGE_MINUTES = 500
MOST_JOB_MINUTES = 1000
MOST_DUE = 1000000
MOST_OPEN = 7
MOST_JOBS = 40
MOST_WAIT = 1000

BEGIN = 0


def begin(works, given):
    flavours = given[0]
    if flavours < 1 or flavours > MOST_FLAVOURS:
        return [OUT_OF_RANGE]
    works.restart(flavours)
    return [0]


def change(works, given):
    before = given[0]
    after = given[1]
    minutes = given[2]
    if not (works.has_flavour(before) and works.has_flavour(after)):
        return [NONE_SUCH]
    if before == after or minutes > MOST_CHANGE_MINUTES:
        return [OUT_OF_RANGE]
    were = works.changes[before][after]
    works.changes[before][after] = minutes
    return [were]


# What job and would refuse alike; None: nothing.
def job_refusal(works, given):
    minutes = given[1]
    due = given[2]
    if not works.has_flavour(given[0]):
        return NONE_SUCH
    if minutes < 1 or minutes > MOST_JOB_MINUTES or due > MOST_DUE:
        return OUT_OF_RANGE
    if len(works.to_run) == MOST_OPEN:
        return TOO_MANY
    return None


def add_job(works, given):
    refusal = job_refusal(works, given)
    if refusal is not None:
        return [refusal]
    number = len(works.jobs)
    if number == MOST_JOBS:
        return [TOO_MANY]
    works.jobs.append(Job(given[0], given[1], given[2]))
    works.to_run.append(number)
    return [number]


def drop(works, given):
    number = given[0]
    if not works.is_open(number):
        return [NONE_SUCH]
    works.to_run.remove(number)
    return [len(works.to_run)]


def run(works, given):
    number = given[0]
    if not works.is_open(number):
        return [NONE_SUCH]
    change_took = works.change_if_next(number)
    end = works.end_if_next(number)
    late = works.late_if_next(number)
    works.to_run.remove(number)
    works.runs.append(Run(number, change_took, end, late))
    works.minute = end
    works.loaded = works.jobs[number].flavour
    return [end, change_took, late]


def wait(works, given):
    minutes = given[0]
    if minutes < 1 or minutes > MOST_WAIT:
        return [OUT_OF_RANGE]
    works.minute += minutes
    works.waited += minutes
    return [works.minute]


def nothing(late):
    return 0


def one_if_late(late):
    return 1 if late > 0 else 0


def minutes_late(late):
    return late


def best(works, given):
    way = best_way(works, works.open_jobs(), nothing)
    return [way[1]] + list(way[2])


def fewest(works, given):
    way = best_way(works, works.open_jobs(), one_if_late)
    return [way[0], way[1]] + list(way[2])


def least(works, given):
    way = best_way(works, works.open_jobs(), minutes_late)
    return [way[0], way[1]] + list(way[2])


def times(works, given):
    if len(set(given)) < len(given):
        return [OUT_OF_RANGE]
    if not all([works.is_open(number) for number in given]):
        return [NONE_SUCH]
    ends = ends_in_order(works, given)
    late = [number for number, end in zip(given, ends) if works.jobs[number].lateness(end) > 0]
    return [len(late)] + ends


def would(works, given):
    refusal = job_refusal(works, given)
    if refusal is not None:
        return [refusal]
    jobs = works.open_jobs()
    end_without = best_way(works, jobs, nothing)[1]
    # The number it would get; it's put into a dict that nothing keeps.
    jobs[len(works.jobs)] = Job(given[0], given[1], given[2])
    end_with = best_way(works, jobs, nothing)[1]
    late = best_way(works, jobs, one_if_late)[0]
    return [max(0, end_with - end_without), late]


def ring(works, given):
    way = best_ring(works)
    return [way[0]] + list(way[1])


def hopeless(works, given):
    late = [number for number in works.to_run if works.late_if_next(number) > 0]
    return [len(late)] + late


def soon(works, given):
    number = given[0]
    if not works.is_open(number):
        return [NONE_SUCH]
    return [works.end_if_next(number), works.change_if_next(number)]


def turn(works, given):
    before = given[0]
    after = given[1]
    if not (works.has_flavour(before) and works.has_flavour(after)):
        return [NONE_SUCH]
    return [works.change_minutes(before, after)]


def list_open(works, given):
    return [len(works.to_run)] + works.to_run


def look(works, given):
    number = given[0]
    if not works.has_job(number):
        return [NONE_SUCH]
    job = works.jobs[number]
    return [job.flavour, job.minutes, job.due]


def done(works, given):
    told = [len(works.runs)]
    for each in works.runs:
        told.extend([each.number, each.end, each.late])
    return told


def sums(works, given):
    changed = sum([each.change_took for each in works.runs])
    worked = sum([works.jobs[each.number].minutes for each in works.runs])
    late = [each.late for each in works.runs if each.late > 0]
    return [0, changed, worked, works.waited, len(late), sum(late)]


def state(works, given):
    on_line = 0 if works.loaded is None else works.loaded + 1
    return [works.minute, works.flavours, len(works.jobs), len(works.to_run), on_line]


# A call's number is its place here.
REPLIES = (
    begin, change, add_job, drop, run, wait, best, fewest, least, times,
    would, ring, hopeless, soon, turn, list_open, look, done, sums, state,
)


def reply(works, number, given):
    if number != BEGIN and not works.has_begun():
        return [NOT_BEGUN]
    return REPLIES[number](works, given)

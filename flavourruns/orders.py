"""How an order of jobs is run, and which order of all jobs is best.

A way is a tuple (cost, end, order): the jobs of order were run one behind another,
the last one ended in minute end, and cost is what their lateness counts for so far.
"""


def ends_in_order(works, order):
    ends = []
    minute = works.minute
    loaded = works.loaded
    for number in order:
        job = works.jobs[number]
        minute += works.change_minutes(loaded, job.flavour) + job.minutes
        loaded = job.flavour
        ends.append(minute)
    return ends


# The ways handed in have run the same jobs and leave the same flavour on the line. What follows
# never costs more for starting sooner, so a way that costs no less and ends no sooner than another
# can't become the better one; and of two that are alike in both, the one whose order comes first
# stays first, whatever follows.
def worth_going_on(ways):
    kept = []
    for way in sorted(ways):
        if len(kept) == 0 or way[1] < kept[-1][1]:
            kept.append(way)
    return kept


# The keys of groups are tuples (numbers of the jobs left, flavour on the line).
def one_job_further(works, jobs, groups, cost_of):
    further = {}
    for key, ways in groups.items():
        left = key[0]
        kept = worth_going_on(ways)
        for place, number in enumerate(left):
            job = jobs[number]
            takes = works.change_minutes(key[1], job.flavour) + job.minutes
            group = further.setdefault((left[:place] + left[place + 1:], job.flavour), [])
            for cost, start, order in kept:
                end = start + takes
                group.append((cost + cost_of(job.lateness(end)), end, order + (number,)))
    return further


# jobs is a dict from rising numbers to all jobs that are to be run; it's handed in, since it may hold one
# that isn't there. cost_of tells what a job that is late by so many minutes costs: never less for more
# minutes.
def best_way(works, jobs, cost_of):
    groups = {(tuple(jobs), works.loaded): [(0, works.minute, ())]}
    for number in jobs:
        groups = one_job_further(works, jobs, groups, cost_of)
    return min([min(ways) for ways in groups.values()])

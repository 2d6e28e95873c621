"""best, fewest and least against all orders of the open jobs, gone through one by one here."""

import itertools
import random
import unittest

from calling import begin, best, change, drop, fewest, job, least, run, times, told, wait


class Case:
    """A list of jobs on a line, and what running some of them first does, reckoned here."""

    def __init__(self, flavours, changes, jobs, first=(), dropped=(), waited=0):
        self.changes = changes
        self.jobs = jobs
        self.minute = waited
        self.flavour = None
        self.open = [number for number in range(len(jobs)) if number not in first and number not in dropped]
        self.calls = [begin(flavours)]
        self.calls += [change(f, g, m) for (f, g), m in sorted(changes.items())]
        # Those that are run first are told of first, so that seven can be open behind them.
        for number, (flavour, minutes, due) in enumerate(jobs):
            self.calls.append(job(flavour, minutes, due))
            if number in first:
                self.calls.append(run(number))
                self.minute += self.changes.get((self.flavour, flavour), 0) + minutes
                self.flavour = flavour
            if number in dropped:
                self.calls.append(drop(number))
        if waited:
            self.calls.append(wait(waited))

    def ends(self, order):
        minute = self.minute
        on_line = self.flavour
        ends = []
        for number in order:
            flavour, minutes, due = self.jobs[number]
            minute = minute + self.changes.get((on_line, flavour), 0) + minutes
            on_line = flavour
            ends.append(minute)
        return ends

    def told_of(self, order):
        ends = self.ends(order)
        late = [max(0, end - self.jobs[number][2]) for number, end in zip(order, ends)]
        end = ends[-1] if ends else self.minute
        return end, sum(1 for minutes in late if minutes > 0), sum(late)

    def expected(self):
        """The answers of best, fewest and least."""
        # permutations come in rising order, and min takes the first of alike ones.
        all_orders = [(order, self.told_of(order)) for order in itertools.permutations(self.open)]
        soonest = min(all_orders, key=lambda each: each[1][0])
        few = min(all_orders, key=lambda each: (each[1][1], each[1][0]))
        little = min(all_orders, key=lambda each: (each[1][2], each[1][0]))
        return [
            [soonest[1][0], *soonest[0]],
            [few[1][1], few[1][0], *few[0]],
            [little[1][2], little[1][0], *little[0]],
        ]


def drawn(seed, flavours, count, most_change, most_minutes, most_due, first=0, dropped=0, waited=0):
    draw = random.Random(seed)
    pairs = [(f, g) for f in range(flavours) for g in range(flavours) if f != g]
    changes = {pair: draw.randint(0, most_change) for pair in pairs}
    total = first + count + dropped
    jobs = [(draw.randrange(flavours), draw.randint(1, most_minutes), draw.randint(0, most_due)) for _ in range(total)]
    gone = draw.sample(range(first, total), dropped)
    return Case(flavours, changes, jobs, tuple(range(first)), tuple(gone), waited)


class AgainstAllOrders(unittest.TestCase):

    def check(self, case):
        answers = told(*case.calls, best(), fewest(), least())[-3:]
        self.assertEqual(answers, case.expected(), case.calls)
        return answers

    def test_up_to_six_open(self):
        for count in range(7):
            for seed in range(25):
                self.check(drawn(seed, 1 + seed % 7, count, 60, 50, 40 * count))

    def test_seven_open(self):
        for seed in range(12):
            self.check(drawn(seed, 1 + seed % 7, 7, 60, 50, 350))

    def test_seven_open_widest_range(self):
        for seed in range(6):
            self.check(drawn(seed, 7, 7, 500, 1000, 6000))

    def test_alike_ones(self):
        # Few values, so that many orders are as good as one another.
        for count in range(2, 7):
            for seed in range(30):
                self.check(drawn(seed, 1 + seed % 3, count, 1, 2, 8))
        for seed in range(8):
            self.check(drawn(seed, 1 + seed % 3, 7, 2, 2, 12))

    def test_behind_jobs_that_were_run_and_dropped(self):
        for seed in range(25):
            self.check(drawn(seed, 1 + seed % 4, 4 + seed % 2, 60, 30, 300, 1 + seed % 4, seed % 3, 7 * (seed % 5)))
        for seed in range(4):
            self.check(drawn(seed, 4, 7, 40, 30, 400, 3, 0, 11))

    def test_all_late_and_none_late(self):
        for seed in range(10):
            self.check(drawn(seed, 3, 5, 50, 50, 0))
            case = drawn(seed, 3, 5, 50, 50, 10)
            case = Case(3, case.changes, [(flavour, minutes, 1000000) for flavour, minutes, due in case.jobs])
            answers = self.check(case)
            self.assertEqual([answer[0] for answer in answers[1:]], [0, 0])

    def test_all_jobs_alike(self):
        for count in range(1, 8):
            case = Case(2, {(0, 1): 5, (1, 0): 5}, [(1, 10, 25)] * count)
            order = list(range(count))
            self.assertEqual([answer[-count:] for answer in self.check(case)], [order] * 3)

    def test_two_kinds_of_jobs_in_turn(self):
        for change_there, change_back in ((0, 0), (5, 5), (5, 9), (9, 5), (0, 7)):
            case = Case(2, {(0, 1): change_there, (1, 0): change_back}, [(k % 2, 10, 30) for k in range(7)])
            self.check(case)


class RunAsTold(unittest.TestCase):

    def test_it_ends_as_told(self):
        for seed in range(20):
            case = drawn(seed, 1 + seed % 5, 1 + seed % 7, 40, 40, 150, seed % 3)
            soonest, few, little = told(*case.calls, best(), fewest(), least())[-3:]
            for end, order in ((soonest[0], soonest[1:]), (few[1], few[2:]), (little[1], little[2:])):
                times_told = told(*case.calls, times(*order))[-1]
                runs = told(*case.calls, *[run(number) for number in order])[-len(order):]
                self.assertEqual([each[0] for each in runs], times_told[1:])
                self.assertEqual(sum(1 for each in runs if each[2] > 0), times_told[0])
                self.assertEqual(runs[-1][0], end)
                if order == few[2:]:
                    self.assertEqual(times_told[0], few[0])
                if order == little[2:]:
                    self.assertEqual(sum(each[2] for each in runs), little[0])

    def test_times_of_any_order(self):
        for seed in range(20):
            case = drawn(seed, 1 + seed % 5, 5, 40, 40, 150, seed % 3)
            for order in itertools.permutations(case.open, 1 + seed % 5):
                late = sum(1 for number, end in zip(order, case.ends(order)) if end > case.jobs[number][2])
                self.assertEqual(told(*case.calls, times(*order))[-1], [late, *case.ends(order)])

    def test_what_cannot_be_in_time_is_late_in_every_order(self):
        # No change takes any minutes, so no way over another flavour is shorter.
        calls = [begin(2), job(0, 10, 9), job(1, 5, 50), job(0, 5, 50), fewest()]
        self.assertEqual(told(*calls)[-1], [1, 20, 0, 1, 2])
        for order in itertools.permutations(range(3)):
            self.assertEqual(told(*calls[:4], *[run(number) for number in order])[4 + order.index(0)][2] > 0, True)

    def test_one_job_more_ends_no_sooner(self):
        # Changes all alike: no way over another flavour is shorter.
        for seed in range(10):
            pairs = [(f, g) for f in range(3) for g in range(3) if f != g]
            jobs = drawn(seed, 3, 6, 1, 30, 100).jobs
            ends = []
            for count in range(7):
                case = Case(3, {pair: 12 for pair in pairs}, jobs[:count])
                ends.append(told(*case.calls, best())[-1][0])
            self.assertEqual(ends, sorted(ends))


if __name__ == "__main__":
    unittest.main()

"""What holds, whatever the calls are: every minute told of, no better ring, run as told, refusals change nothing."""

import itertools
import random
import unittest

from calling import (MOST, all_told, begin, best, change, done, drop, fewest, hopeless, job, last, least, look,
                     open_jobs, ring, run, soon, state, sums, times, told, turn, wait, would)


def pairs_of(flavours):
    return [(f, g) for f in range(flavours) for g in range(flavours) if f != g]


def drawn_changes(draw, flavours, most):
    return {pair: draw.randint(0, most) for pair in pairs_of(flavours)}


def shortest(changes, flavours):
    """The same changes, each as short as it is over others: no way over another flavour is shorter then."""
    short = {(f, f): 0 for f in range(flavours)}
    short.update(changes)
    for over, f, g in itertools.product(range(flavours), repeat=3):
        short[f, g] = min(short[f, g], short[f, over] + short[over, g])
    return {pair: short[pair] for pair in pairs_of(flavours)}


def as_calls(changes):
    return [change(f, g, minutes) for (f, g), minutes in sorted(changes.items())]


def drawn_step(draw, flavours):
    """A call that changes something, if it isn't refused; jobs that aren't there are among them."""
    kind = draw.randrange(10)
    if kind < 4:
        return job(draw.randrange(flavours), draw.randint(1, 40), draw.randint(0, 300))
    if kind < 6:
        return run(draw.randrange(12))
    if kind == 6:
        return drop(draw.randrange(12))
    if kind == 7:
        return wait(draw.randint(1, 20))
    return change(draw.randrange(flavours + 1), draw.randrange(flavours + 1), draw.randint(0, 60))


def drawn_line(seed, count=40):
    draw = random.Random(seed)
    flavours = 1 + seed % 7
    calls = [begin(flavours)] + as_calls(drawn_changes(draw, flavours, 60))
    return calls + [drawn_step(draw, flavours) for step in range(count)]


class EveryMinuteIsToldOf(unittest.TestCase):

    def test_changed_run_or_waited(self):
        for seed in range(30):
            calls = drawn_line(seed)
            tells = [each for call in calls for each in (call, sums(), state())]
            answers = told(*tells)
            for totals, now in zip(answers[1::3], answers[2::3]):
                self.assertEqual(now[0], sum(totals[1:4]))

    def test_sums_are_what_run_and_wait_told(self):
        for seed in range(30):
            calls = drawn_line(seed)
            answers = told(*calls)
            runs = [(call[1], answer) for call, answer in zip(calls, answers) if call[0] == 4 and answer[0] >= 0]
            waited = sum(call[1] for call in calls if call[0] == 5)
            looks = told(*calls, *[look(number) for number, answer in runs])[len(calls):]
            changed = sum(answer[1] for number, answer in runs)
            late = [answer[2] for number, answer in runs if answer[2] > 0]
            self.assertEqual(last(*calls, sums()),
                             [0, changed, sum(each[1] for each in looks), waited, len(late), sum(late)])
            each_run = [told_of for number, answer in runs for told_of in (number, answer[0], answer[2])]
            self.assertEqual(last(*calls, done()), [len(runs), *each_run])

    def test_every_job_is_open_run_or_dropped(self):
        for seed in range(30):
            calls = drawn_line(seed)
            dropped = [call[1] for call, answer in zip(calls, told(*calls)) if call[0] == 3 and answer[0] >= 0]
            open_told, done_told, now = told(*calls, open_jobs(), done(), state())[-3:]
            self.assertEqual(sorted(open_told[1:] + done_told[1::3] + dropped), list(range(now[2])))
            self.assertEqual([len(open_told) - 1, now[3]], [open_told[0]] * 2)


class NoBetterRing(unittest.TestCase):

    def expected(self, changes, flavours):
        # permutations come in rising order, and min takes the first of alike ones.
        rings = [(0, *others) for others in itertools.permutations(range(1, flavours))]

        def minutes(flavours_in_order):
            onwards = flavours_in_order[1:] + (0,)
            return sum(changes.get(pair, 0) for pair in zip(flavours_in_order, onwards))

        least_ring = min(rings, key=minutes)
        return [minutes(least_ring), *least_ring]

    def check(self, draw, flavours, most):
        changes = drawn_changes(draw, flavours, most)
        self.assertEqual(last(begin(flavours), *as_calls(changes), ring()), self.expected(changes, flavours), changes)

    def test_against_all_rings(self):
        draw = random.Random(1)
        for flavours in range(1, 8):
            for most in (500, 60, 500):
                for again in range(8):
                    self.check(draw, flavours, most)

    def test_against_all_rings_where_many_are_alike(self):
        draw = random.Random(2)
        for flavours in range(1, 8):
            for most in (1, 2, 3):
                for again in range(10):
                    self.check(draw, flavours, most)


class RunAsTold(unittest.TestCase):

    def test_done_is_as_best_fewest_and_least_tell(self):
        for seed in range(20):
            calls = drawn_line(seed) + drawn_line(seed + 3, 30)
            soonest, few, little = told(*calls, best(), fewest(), least())[-3:]
            before, before_sums = told(*calls, done(), sums())[-2:]
            for end, order in ((soonest[0], soonest[1:]), (few[1], few[2:]), (little[1], little[2:])):
                answers = told(*calls, times(*order), *[run(number) for number in order], done(), sums(), state())
                ends = answers[len(calls)][1:]
                runs = answers[-3][len(before):]
                self.assertEqual(answers[-1][0], end)
                self.assertEqual(runs[::3], order)
                self.assertEqual(runs[1::3], ends)
                self.assertEqual(answers[-2][4] - before_sums[4], answers[len(calls)][0])
                if order == few[2:]:
                    self.assertEqual(answers[-2][4] - before_sums[4], few[0])
                if order == little[2:]:
                    self.assertEqual(answers[-2][5] - before_sums[5], little[0])

    def test_what_soon_and_hopeless_tell_is_what_run_does(self):
        for seed in range(30):
            calls = drawn_line(seed, 30)
            open_now = last(*calls, open_jobs())[1:]
            late = []
            for number in open_now:
                end, change_took, minutes_late = last(*calls, run(number))
                self.assertEqual(last(*calls, soon(number)), [end, change_took])
                late += [number] if minutes_late > 0 else []
            self.assertEqual(last(*calls, hopeless()), [len(late), *late])


class WhereNoWayOverAnotherIsShorter(unittest.TestCase):

    def lines(self):
        for seed in range(40):
            draw = random.Random(seed)
            flavours = 1 + seed % 5
            calls = [begin(flavours)] + as_calls(shortest(drawn_changes(draw, flavours, 60), flavours))
            for number in range(seed % 3):
                calls += [job(draw.randrange(flavours), 5, 5), run(number)]
            for number in range(1 + seed % 5):
                calls.append(job(draw.randrange(flavours), draw.randint(1, 40), draw.randint(0, 90)))
            yield draw, flavours, calls

    def test_one_job_more_ends_no_sooner(self):
        for draw, flavours, calls in self.lines():
            given = (draw.randrange(flavours), draw.randint(1, 40), draw.randint(0, 200))
            tells = [best(), would(*given), job(*given), best(), fewest()]
            without, more, number, together, few = told(*calls, *tells)[-5:]
            self.assertGreaterEqual(together[0], without[0])
            self.assertEqual(more, [together[0] - without[0], few[0]])

    def test_what_is_hopeless_is_late_in_every_order(self):
        seen = 0
        for draw, flavours, calls in self.lines():
            hopeless_now, open_now = told(*calls, hopeless(), open_jobs())[-2:]
            orders = list(itertools.permutations(open_now[1:]))
            looks = {number: last(*calls, look(number)) for number in hopeless_now[1:]}
            for order, answer in zip(orders, told(*calls, *[times(*order) for order in orders])[len(calls):]):
                for number in hopeless_now[1:]:
                    self.assertGreater(answer[1 + order.index(number)], looks[number][2])
                    seen += 1
        self.assertGreater(seen, 100)


class AnyWayOver(unittest.TestCase):

    def test_would_is_what_one_job_more_does_but_never_below_0(self):
        sooner = 0
        for seed in range(100):
            draw = random.Random(seed)
            flavours = 3 + seed % 5
            # Near or far, so that it is often shorter over another one.
            changes = {pair: draw.choice((2, 300, 400, 500)) for pair in pairs_of(flavours)}
            calls = [begin(flavours)] + as_calls(changes)
            calls += [job(draw.randrange(flavours), 5, 5), run(0)]
            for number in range(seed % 7 if seed < 50 else seed % 3):
                calls.append(job(draw.randrange(flavours), draw.randint(1, 40), draw.randint(0, 400)))
            given = (draw.randrange(flavours), draw.randint(1, 5), draw.randint(0, 400))
            tells = [best(), would(*given), job(*given), best(), fewest()]
            without, more, number, together, few = told(*calls, *tells)[-5:]
            self.assertEqual(more, [max(0, together[0] - without[0]), few[0]])
            sooner += together[0] < without[0]
        self.assertGreater(sooner, 5)


class RefusedChangesNothing(unittest.TestCase):

    def test_nothing_that_is_told_is_another(self):
        for seed in range(20):
            calls = drawn_line(seed)
            flavours, jobs = last(*calls, state())[1:3]
            gone = [number for number in range(jobs) if number not in last(*calls, open_jobs())[1:]]
            refused = [begin(0), begin(8), change(flavours, 0, 1), change(0, MOST, 1), change(0, 0, 1), wait(0),
                       wait(1001), job(flavours, 1, 1), job(0, 0, 1), job(0, 1, 1000001), would(flavours, 1, 1),
                       would(0, 1001, 1), would(0, 1, MOST), times(0, 0), times(jobs), soon(jobs), soon(MOST),
                       turn(0, flavours), turn(MOST, 0), look(jobs), look(MOST), drop(jobs), run(jobs)]
            refused += [each(number) for number in gone for each in (drop, run, soon, times)]
            plain = told(*calls, *all_told(flavours, jobs))[len(calls):]
            mixed = told(*calls, *refused, *all_told(flavours, jobs))[len(calls):]
            self.assertEqual(mixed[len(refused):], plain)
            for answer in mixed[:len(refused)]:
                self.assertEqual(len(answer), 1)
                self.assertIn(answer[0], (-2, -22))


if __name__ == "__main__":
    unittest.main()

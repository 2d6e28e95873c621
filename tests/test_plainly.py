"""Drawn lists of all twenty calls, answered here as plainly as can be, with all orders and rings gone through."""

import itertools
import random
import unittest

from calling import MOST, flat, split
from flavourruns.line import answers

NAMES = ("begin change job drop run wait best fewest least times would ring hopeless soon turn open look done sums "
         "state").split()


class Plain:

    def __init__(self):
        self.flavours = None

    def call(self, numbers):
        name = NAMES[numbers[0]]
        given = numbers[2:] if name == "times" else numbers[1:]
        if name != "begin" and self.flavours is None:
            return [-11]
        if name == "times":
            return self.times(given)
        return getattr(self, name)(*given)

    def begin(self, n):
        if n not in range(1, 8):
            return [-22]
        self.flavours = range(n)
        self.minutes = {}
        self.jobs = []
        self.open_ones = set()
        self.log = []
        return [0]

    def now(self):
        return sum(entry[1] for entry in self.log)

    def ended(self):
        """Of each job that was run: its number, when it ended, how late it was."""
        minute = 0
        for kind, took, number in self.log:
            minute += took
            if kind == "job":
                yield number, minute, max(0, minute - self.jobs[number][2])

    def on_line(self):
        ran = [number for kind, took, number in self.log if kind == "job"]
        return self.jobs[ran[-1]][0] if ran else None

    def change_to(self, on_line, flavour):
        return self.minutes.get((on_line, flavour), 0)

    def follow(self, order, jobs):
        """Of each job in this order: when it ends, how late it is."""
        minute, on_line, told = self.now(), self.on_line(), []
        for number in order:
            flavour, takes, due = jobs[number]
            minute += self.change_to(on_line, flavour) + takes
            on_line = flavour
            told.append((minute, max(0, minute - due)))
        return told

    def pick(self, worth, numbers=None, jobs=None):
        """The least of all orders, by what worth tells of the lateness of each, then the end, then the order."""
        numbers = self.open_ones if numbers is None else numbers
        jobs = self.jobs if jobs is None else jobs
        found = []
        for order in itertools.permutations(sorted(numbers)):
            told = self.follow(order, jobs)
            found.append((worth([late for end, late in told]), told[-1][0] if told else self.now(), order))
        return min(found)

    def change(self, f, g, m):
        if f not in self.flavours or g not in self.flavours:
            return [-2]
        if f == g or m > 500:
            return [-22]
        before = self.change_to(f, g)
        self.minutes[f, g] = m
        return [before]

    def refuse_job(self, f, m, d):
        if f not in self.flavours:
            return -2
        if m not in range(1, 1001) or d > 1000000:
            return -22
        return -28 if len(self.open_ones) == 7 else 0

    def job(self, f, m, d):
        refusal = self.refuse_job(f, m, d)
        if refusal == 0 and len(self.jobs) == 40:
            refusal = -28
        if refusal:
            return [refusal]
        self.open_ones.add(len(self.jobs))
        self.jobs.append((f, m, d))
        return [len(self.jobs) - 1]

    def drop(self, j):
        if j not in self.open_ones:
            return [-2]
        self.open_ones.remove(j)
        return [len(self.open_ones)]

    def run(self, j):
        if j not in self.open_ones:
            return [-2]
        change = self.change_to(self.on_line(), self.jobs[j][0])
        self.open_ones.remove(j)
        self.log += [("change", change, j), ("job", self.jobs[j][1], j)]
        return [self.now(), change, max(0, self.now() - self.jobs[j][2])]

    def wait(self, n):
        if n not in range(1, 1001):
            return [-22]
        self.log.append(("wait", n, None))
        return [self.now()]

    def best(self):
        worth, end, order = self.pick(lambda lates: 0)
        return [end, *order]

    def fewest(self):
        worth, end, order = self.pick(lambda lates: sum(late > 0 for late in lates))
        return [worth, end, *order]

    def least(self):
        worth, end, order = self.pick(sum)
        return [worth, end, *order]

    def times(self, jobs):
        if any(jobs.count(number) > 1 for number in jobs):
            return [-22]
        if any(number not in self.open_ones for number in jobs):
            return [-2]
        told = self.follow(jobs, self.jobs)
        return [sum(late > 0 for end, late in told)] + [end for end, late in told]

    def would(self, f, m, d):
        refusal = self.refuse_job(f, m, d)
        if refusal:
            return [refusal]
        jobs = self.jobs + [(f, m, d)]
        numbers = self.open_ones | {len(self.jobs)}
        end = self.pick(lambda lates: 0, numbers, jobs)[1]
        late = self.pick(lambda lates: sum(late > 0 for late in lates), numbers, jobs)[0]
        return [max(0, end - self.best()[0]), late]

    def ring(self):
        rings = [(0, *others) for others in itertools.permutations(self.flavours[1:])]
        found = [(sum(map(self.change_to, each, each[1:] + (0,))), each) for each in rings]
        return [min(found)[0], *min(found)[1]]

    def hopeless(self):
        late = [number for number in sorted(self.open_ones) if self.follow([number], self.jobs)[0][1]]
        return [len(late), *late]

    def soon(self, j):
        if j not in self.open_ones:
            return [-2]
        return [self.follow([j], self.jobs)[0][0], self.change_to(self.on_line(), self.jobs[j][0])]

    def turn(self, f, g):
        return [self.change_to(f, g)] if f in self.flavours and g in self.flavours else [-2]

    def open(self):
        return [len(self.open_ones), *sorted(self.open_ones)]

    def look(self, j):
        return list(self.jobs[j]) if j < len(self.jobs) else [-2]

    def done(self):
        ended = list(self.ended())
        return [len(ended)] + flat(ended)

    def sums(self):
        lates = [late for number, end, late in self.ended()]
        totals = [sum(took for kind, took, number in self.log if kind == each) for each in ("change", "job", "wait")]
        return [0, *totals, sum(late > 0 for late in lates), sum(lates)]

    def state(self):
        on_line = self.on_line()
        return [self.now(), len(self.flavours), len(self.jobs), len(self.open_ones),
                0 if on_line is None else on_line + 1]


class Drawn:
    """Calls drawn one by one; most_open keeps the orders that are gone through few."""

    def __init__(self, seed, most_open, near):
        self.draw = random.Random(seed)
        self.most_open = most_open
        self.near = near
        self.plain = Plain()

    def odd(self, usual, others):
        return self.draw.choice(others) if self.draw.random() < 0.08 else usual

    def flavour(self):
        flavours = self.plain.flavours or range(1)
        return self.odd(self.draw.choice(flavours), [len(flavours), 7, MOST])

    def number(self):
        known = getattr(self.plain, "jobs", [])
        ready = sorted(getattr(self.plain, "open_ones", []))
        usual = self.draw.choice(ready) if ready else 0
        return self.odd(usual, [len(known), self.draw.randrange(len(known) + 1), 40, MOST])

    def job(self):
        minutes = self.odd(self.draw.randint(1, self.near), [0, 1, 1000, 1001, MOST])
        now = self.plain.now() if self.plain.flavours else 0
        due = self.odd(now + self.draw.randint(0, 4 * self.near), [0, 1000000, 1000001, MOST])
        return [self.flavour(), minutes, due]

    def given(self, name):
        if name == "begin":
            return [self.odd(self.draw.randint(1, 7), [0, 8, MOST])]
        if name == "change":
            return [self.flavour(), self.flavour(), self.odd(self.draw.randint(0, self.near), [0, 500, 501, MOST])]
        if name in ("job", "would"):
            return self.job()
        if name == "wait":
            return [self.odd(self.draw.randint(1, self.near), [0, 1, 1000, 1001, MOST])]
        if name == "turn":
            return [self.flavour(), self.flavour()]
        if name in ("drop", "run", "soon", "look"):
            return [self.number()]
        if name == "times":
            ready = sorted(getattr(self.plain, "open_ones", []))
            row = self.odd(self.draw.sample(ready, self.draw.randint(0, len(ready))),
                           [[self.number() for place in range(self.draw.randint(0, 10))]])
            return [len(row), *row]
        return []

    def name(self):
        if self.plain.flavours is None:
            return self.draw.choice(["begin", "begin", *NAMES])
        full = len(self.plain.open_ones) >= self.most_open
        name = self.draw.choice(NAMES + ["run", "change", "change"] + ([] if full else ["job"] * 6))
        # A second begin now and then only, else there is never much to tell of.
        if name == "begin" and self.draw.random() < 0.9:
            name = "ring"
        return "run" if full and name in ("job", "would") and self.most_open < 7 else name

    def line(self, count):
        calls, expected = [], []
        for step in range(count):
            name = self.name()
            call = [NAMES.index(name)] + self.given(name)
            calls.append(call)
            expected.append(self.plain.call(call))
        return calls, expected


class AgainstPlainAnswers(unittest.TestCase):

    def check(self, seed, count, most_open, near):
        calls, expected = Drawn(seed, most_open, near).line(count)
        told = split(answers(flat(calls)))
        for place, (call, answer, expected_answer) in enumerate(zip(calls, told, expected, strict=True)):
            self.assertEqual(answer, expected_answer, (seed, place, call))
        return [(call[0], answer[0]) for call, answer in zip(calls, told)]

    def test_up_to_four_open(self):
        seen = set()
        for seed in range(40):
            seen.update(self.check(seed, 400, 4, (3, 20, 300)[seed % 3]))
        refused = {(number, answer) for number, answer in seen if answer < 0}
        self.assertEqual({number for number, answer in seen if answer >= 0}, set(range(20)))
        for number, answer in [(1, -2), (1, -22), (2, -2), (2, -22), (3, -2), (4, -2), (5, -22), (9, -22), (9, -2),
                               (10, -2), (10, -22), (13, -2), (14, -2), (16, -2), (0, -22), (2, -28)]:
            self.assertIn((number, answer), refused)

    def test_up_to_five_open(self):
        for seed in range(10):
            self.check(100 + seed, 300, 5, (2, 30)[seed % 2])

    def test_up_to_seven_open(self):
        seen = set()
        for seed in range(4):
            seen.update(self.check(200 + seed, 100, 7, (3, 40)[seed % 2]))
        self.assertIn((10, -28), seen)


if __name__ == "__main__":
    unittest.main()

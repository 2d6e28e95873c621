"""The list that is handed in, the list that is given back, and that nothing is kept."""

import unittest

from calling import (begin, best, change, done, drop, fewest, flat, hopeless, job, least, look, open_jobs, ring, run,
                     soon, split, state, sums, times, turn, wait, would)
from flavourruns.line import answers

CALLS = flat([
    wait(1), begin(0), begin(3), change(0, 1, 40), change(1, 0, 10), change(2, 2, 1), job(0, 10, 30), job(1, 20, 60),
    job(2, 5, 5), best(), fewest(), least(), times(), times(2, 0, 1), times(1, 1), run(2), wait(6), drop(0), times(0),
    best(), would(2, 5, 9), would(3, 1, 1), ring(), hopeless(), soon(1), soon(0), turn(0, 1), turn(3, 0), open_jobs(),
    look(0), look(3), done(), sums(), state(), begin(1), job(0, 1, 1), best(), ring(), state(), open_jobs(), done(),
])


class OnlyRead(list):
    """A list that fails as soon as it is changed, for a while too."""

    def refuse(self, *given, **named):
        raise AssertionError("what is handed in was changed")

    __setitem__ = __delitem__ = __iadd__ = __imul__ = refuse
    append = extend = insert = pop = remove = clear = sort = reverse = refuse


class HandedIn(unittest.TestCase):

    def test_it_is_as_it_was_afterwards(self):
        calls = list(CALLS)
        answers(calls)
        self.assertEqual(calls, CALLS)

    def test_it_is_not_changed_for_a_while_either(self):
        self.assertEqual(answers(OnlyRead(CALLS)), answers(list(CALLS)))

    def test_the_answers_are_another_list(self):
        calls = list(CALLS)
        told = answers(calls)
        told.append(7)
        self.assertEqual(calls, CALLS)


class NothingKept(unittest.TestCase):

    def test_the_same_list_again_gives_the_same_answers(self):
        calls = list(CALLS)
        first = answers(calls)
        kept = list(first)
        self.assertEqual(answers(calls), kept)
        first.clear()
        self.assertEqual(answers(calls), kept)

    def test_another_list_between(self):
        before = answers(list(CALLS))
        answers([0, 7, 2, 6, 1000, 0, 4, 0, 5, 1000, 1, 6, 5, 500])
        self.assertEqual(answers([5, 1]), [1, -11])
        self.assertEqual(answers([0, 7, 6, 1, 6, 5, 1]), [1, 0, 1, 0, 1, 0])
        expected = [1, 0, 1, 0, 1, 0, 6, 0, 0, 0, 0, 0, 0, 5, 0, 7, 0, 0, 0, 1, -2]
        self.assertEqual(answers([0, 7, 15, 17, 18, 19, 16, 0]), expected)
        self.assertEqual(answers(list(CALLS)), before)


class GivenBack(unittest.TestCase):

    def test_a_list_of_whole_numbers(self):
        told = answers(list(CALLS))
        self.assertIs(type(told), list)
        self.assertEqual({type(number) for number in told}, {int})

    def test_counts_go_before_the_answers(self):
        parts = split(answers(list(CALLS)))
        self.assertEqual([len(part) for part in parts],
                         [1, 1, 1, 1, 1, 1, 1, 1, 1, 4, 5, 5, 1, 4, 1, 3, 1, 1, 1, 2,
                          2, 1, 4, 1, 2, 1, 1, 1, 2, 3, 1, 4, 6, 5, 1, 1, 2, 2, 5, 2, 1])

    def test_a_refusal_is_alone_and_nothing_else_is_below_0(self):
        for part in split(answers(list(CALLS))):
            if len(part) > 1:
                self.assertTrue(all(number >= 0 for number in part), part)

    def test_one_call(self):
        self.assertEqual(answers([0, 7]), [1, 0])
        self.assertEqual(answers([6]), [1, -11])
        self.assertEqual(answers([9, 0]), [1, -11])
        self.assertEqual(answers([9, 10, 0, 1, 2, 3, 4, 5, 6, 7, 8, 9]), [1, -11])

    def test_each_call_takes_its_numbers_alone(self):
        sizes = {1: 3, 2: 3, 3: 1, 4: 1, 5: 1, 9: 1, 10: 3, 13: 1, 14: 2, 16: 1}
        for number in range(1, 20):
            # A 0 that was left over would stand for a begin.
            told = split(answers([number] + [0] * sizes.get(number, 0) + [5, 1]))
            self.assertEqual(told, [[-11], [-11]], number)

    def test_a_row_of_times_is_not_taken_for_calls(self):
        self.assertEqual(answers([0, 1, 9, 2, 0, 7, 9, 3, 6, 6, 6, 9, 0, 6]), [1, 0, 1, -2, 1, -22, 1, 0, 1, 0])


class FourHundredCalls(unittest.TestCase):

    def test_seven_open_jobs_and_seven_flavours(self):
        calls = [begin(7)]
        calls += [change(f, g, (37 * f + 91 * g) % 501) for f in range(7) for g in range(7) if f != g]
        calls += [job(flavour, 1000 - 13 * flavour, 700 * flavour) for flavour in range(6)]
        calls += [would(6, 900, 5000), would(0, 1, 0)] * 30
        calls += [job(6, 900, 5000)]
        tells = [best(), fewest(), least(), ring(), hopeless(), open_jobs(), done(), sums(), state(), would(0, 1, 1),
                 soon(3), turn(6, 0), look(6), times(6, 5, 4, 3, 2, 1, 0)]
        calls += tells * 20
        calls += [wait(1)] * (400 - len(calls))
        handed_in = flat(calls)
        kept = list(handed_in)
        told = answers(handed_in)
        self.assertEqual(handed_in, kept)
        parts = split(told)
        self.assertEqual(len(parts), 400)
        self.assertEqual(parts[49:109:2], [parts[49]] * 30)
        first = parts[110:110 + len(tells)]
        self.assertEqual(parts[110:110 + 20 * len(tells)], first * 20)
        self.assertEqual(parts[49], [first[0][0] - answers(flat([*calls[:49], best()]))[-7], first[1][0]])
        self.assertEqual(answers(handed_in), told)


if __name__ == "__main__":
    unittest.main()

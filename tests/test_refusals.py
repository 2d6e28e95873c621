"""Each refusal, which one is answered where several are due, and that none changes anything."""

import unittest

from calling import (MOST, all_told, begin, best, change, done, drop, fewest, hopeless, job, last, least, look,
                     open_jobs, ring, run, soon, state, sums, times, told, turn, wait, would)
from flavourruns.line import answers

OTHERS = [change(0, 1, 5), job(0, 1, 1), drop(0), run(0), wait(1), best(), fewest(), least(),
          times(), times(0), times(0, 0), would(0, 1, 1), ring(), hopeless(), soon(0), turn(0, 0), turn(0, 1),
          open_jobs(), look(0), done(), sums(), state()]
SEVEN_OPEN = [job(0, 1, 1)] * 7


class NotBegun(unittest.TestCase):

    def test_all_others_before_begin(self):
        for call in OTHERS:
            self.assertEqual(answers(call), [1, -11], call)

    def test_with_arguments_that_would_be_refused_otherwise(self):
        for call in [change(MOST, MOST, MOST), job(MOST, 0, MOST), drop(MOST), run(MOST), wait(0), wait(MOST),
                     times(MOST, MOST), would(MOST, 0, MOST), would(0, 0, 0), soon(MOST), turn(MOST, MOST),
                     look(MOST)]:
            self.assertEqual(answers(call), [1, -11], call)

    def test_behind_a_begin_that_is_refused(self):
        for flavours in (0, 8, MOST):
            for call in OTHERS:
                self.assertEqual(told(begin(flavours), call), [[-22], [-11]], call)

    def test_what_is_refused_before_begin_leaves_nothing_behind(self):
        calls = [job(0, 5, 9), wait(3), change(0, 1, 4), begin(2), best(), change(0, 1, 6), job(1, 2, 0)]
        self.assertEqual(told(*calls), [[-11], [-11], [-11], [0], [0], [0], [0]])

    def test_nor_shows_it_in_what_is_told(self):
        refused = [job(0, 5, 9), wait(3), change(0, 1, 4), drop(0), run(0), would(0, 1, 1), begin(8)]
        plain = told(begin(2), *all_told(3, 3))
        self.assertEqual(told(*refused, begin(2), *all_told(3, 3))[len(refused):], plain)


class Begin(unittest.TestCase):

    def test_out_of_range(self):
        for flavours in (0, 8, 9, MOST):
            self.assertEqual(answers([0, flavours]), [1, -22])
            self.assertEqual(last(begin(3), begin(flavours)), [-22])


class Change(unittest.TestCase):

    def test_no_such_flavour(self):
        for call in (change(2, 0, 1), change(0, 2, 1), change(2, 3, 1), change(MOST, 0, 1), change(0, MOST, 1)):
            self.assertEqual(last(begin(2), call), [-2], call)

    def test_out_of_range(self):
        for call in (change(0, 0, 1), change(1, 1, 0), change(0, 1, 501), change(1, 0, MOST), change(0, 0, 501)):
            self.assertEqual(last(begin(2), call), [-22], call)

    def test_no_such_flavour_goes_ahead_of_out_of_range(self):
        for call in (change(2, 2, 1), change(MOST, MOST, 1), change(2, 0, 501), change(0, 2, MOST), change(2, 2, 501)):
            self.assertEqual(last(begin(2), call), [-2], call)


class Job(unittest.TestCase):

    def test_no_such_flavour(self):
        for flavour in (2, 6, 7, MOST):
            self.assertEqual(last(begin(2), job(flavour, 1, 1)), [-2])

    def test_out_of_range(self):
        for call in (job(0, 0, 1), job(0, 1001, 1), job(0, MOST, 1), job(0, 1, 1000001), job(0, 1, MOST),
                     job(0, 0, MOST)):
            self.assertEqual(last(begin(2), call), [-22], call)

    def test_too_many_open(self):
        self.assertEqual(last(begin(2), *SEVEN_OPEN, job(1, 1, 1)), [-28])

    def test_too_many_ever(self):
        forty = [job(0, 1, 1), drop(0)]
        for number in range(1, 40):
            forty += [job(0, 1, 1), drop(number)]
        self.assertEqual(last(begin(2), *forty, job(0, 1, 1)), [-28])

    def test_no_such_flavour_goes_ahead_of_out_of_range(self):
        for call in (job(2, 0, 1), job(2, 1001, 1), job(MOST, 1, 1000001)):
            self.assertEqual(last(begin(2), call), [-2], call)

    def test_no_such_flavour_goes_ahead_of_too_many(self):
        self.assertEqual(last(begin(2), *SEVEN_OPEN, job(2, 1, 1)), [-2])
        self.assertEqual(last(begin(2), *SEVEN_OPEN, job(2, 0, MOST)), [-2])

    def test_out_of_range_goes_ahead_of_too_many(self):
        for call in (job(0, 0, 1), job(0, 1001, 1), job(0, 1, 1000001)):
            self.assertEqual(last(begin(2), *SEVEN_OPEN, call), [-22], call)


class DropAndRun(unittest.TestCase):

    def test_no_such_job(self):
        for call in (drop(0), run(0), drop(MOST), run(MOST)):
            self.assertEqual(last(begin(2), call), [-2], call)
        for call in (drop(1), run(1), drop(40), run(40), drop(MOST), run(MOST)):
            self.assertEqual(last(begin(2), job(0, 1, 1), call), [-2], call)

    def test_open_no_more(self):
        for first in (drop(0), run(0)):
            for second in (drop(0), run(0)):
                self.assertEqual(last(begin(2), job(0, 1, 1), job(0, 1, 1), first, second), [-2])


class Wait(unittest.TestCase):

    def test_out_of_range(self):
        for minutes in (0, 1001, MOST):
            self.assertEqual(last(begin(2), wait(minutes)), [-22])


class Times(unittest.TestCase):

    def test_told_twice(self):
        two = [begin(2), job(0, 1, 1), job(1, 1, 1)]
        for call in (times(0, 0), times(0, 1, 0), times(1, 0, 1), times(*[1] * 10)):
            self.assertEqual(last(*two, call), [-22], call)

    def test_not_open(self):
        three = [begin(2), job(0, 1, 1), job(1, 1, 1), job(1, 1, 1), drop(0), run(1)]
        for call in (times(0), times(1), times(2, 0), times(1, 2), times(3), times(2, MOST)):
            self.assertEqual(last(*three, call), [-2], call)

    def test_ten_jobs_are_more_than_can_be_open(self):
        self.assertEqual(last(begin(2), *SEVEN_OPEN, times(*range(10))), [-2])

    def test_told_twice_goes_ahead_of_not_open(self):
        one = [begin(2), job(0, 1, 1)]
        for call in (times(1, 1), times(MOST, MOST), times(5, 0, 0), times(0, 0, 5), times(0, 5, 5),
                     times(1, 2, 3, 4, 5, 6, 7, 8, 9, 1)):
            self.assertEqual(last(*one, call), [-22], call)


class Would(unittest.TestCase):

    def test_no_such_flavour(self):
        for flavour in (2, 6, 7, MOST):
            self.assertEqual(last(begin(2), would(flavour, 1, 1)), [-2])

    def test_out_of_range_as_job(self):
        for call in (would(0, 0, 1), would(0, 1001, 1), would(0, MOST, 1), would(0, 1, 1000001), would(0, 1, MOST),
                     would(0, 0, MOST)):
            self.assertEqual(last(begin(2), call), [-22], call)

    def test_too_many_open(self):
        self.assertEqual(last(begin(2), *SEVEN_OPEN, would(1, 1, 1)), [-28])
        self.assertEqual(last(begin(2), *SEVEN_OPEN, drop(2), would(1, 1, 1))[0], 1)
        self.assertEqual(last(begin(2), *SEVEN_OPEN, run(2), would(1, 1, 1))[0], 1)

    def test_forty_ever_are_not_too_many(self):
        calls = [begin(2)]
        for number in range(40):
            calls += [job(0, 1, 1), drop(number)]
        self.assertEqual(told(*calls, job(1, 9, 8), would(1, 9, 8))[-2:], [[-28], [9, 1]])

    def test_forty_ever_and_six_or_seven_open(self):
        calls = [begin(1)]
        for number in range(33):
            calls += [job(0, 1, 1), drop(number)]
        calls += [job(0, 1, 100)] * 7
        self.assertEqual(told(*calls, would(0, 2, 9), drop(35), would(0, 2, 9), job(0, 2, 9))[-4:],
                         [[-28], [6], [2, 0], [-28]])

    def test_no_such_flavour_goes_ahead_of_all(self):
        for call in (would(2, 0, 1), would(2, 1001, 1), would(MOST, 1, 1000001), would(MOST, MOST, MOST)):
            self.assertEqual(last(begin(2), call), [-2], call)
            self.assertEqual(last(begin(2), *SEVEN_OPEN, call), [-2], call)
        self.assertEqual(last(begin(2), *SEVEN_OPEN, would(2, 1, 1)), [-2])

    def test_out_of_range_goes_ahead_of_too_many(self):
        for call in (would(0, 0, 1), would(0, 1001, 1), would(0, 1, 1000001)):
            self.assertEqual(last(begin(2), *SEVEN_OPEN, call), [-22], call)


class Soon(unittest.TestCase):

    def test_no_such_job(self):
        for number in (0, 1, MOST):
            self.assertEqual(last(begin(2), soon(number)), [-2])
        for number in (1, 40, MOST):
            self.assertEqual(last(begin(2), job(0, 1, 1), soon(number)), [-2])

    def test_open_no_more(self):
        for first in (drop(0), run(0)):
            self.assertEqual(last(begin(2), job(0, 1, 1), job(0, 1, 1), first, soon(0)), [-2])
            self.assertEqual(len(last(begin(2), job(0, 1, 1), job(0, 1, 1), first, soon(1))), 2)


class Turn(unittest.TestCase):

    def test_no_such_flavour(self):
        for call in (turn(2, 0), turn(0, 2), turn(2, 2), turn(2, 3), turn(MOST, 0), turn(0, MOST), turn(MOST, MOST)):
            self.assertEqual(last(begin(2), call), [-2], call)
        for call in (turn(1, 0), turn(0, 1), turn(1, 1)):
            self.assertEqual(last(begin(1), call), [-2], call)


class Look(unittest.TestCase):

    def test_no_such_job(self):
        for number in (0, 1, 39, 40, MOST):
            self.assertEqual(last(begin(2), look(number)), [-2])
        for number in (2, 3, 40, MOST):
            self.assertEqual(last(begin(2), job(0, 1, 1), job(1, 2, 3), look(number)), [-2])

    def test_a_job_that_is_open_no_more_is_still_looked_at(self):
        calls = [begin(2), job(0, 1, 5), job(1, 2, 6), run(1), drop(0), look(0), look(1), look(2)]
        self.assertEqual(told(*calls)[-3:], [[0, 1, 5], [1, 2, 6], [-2]])

    def test_what_was_refused_is_no_job(self):
        calls = [begin(2), job(0, 0, 1), job(2, 1, 1), would(0, 1, 1), look(0)]
        self.assertEqual(last(*calls), [-2])
        self.assertEqual(last(begin(2), *SEVEN_OPEN, job(0, 1, 1), look(7)), [-2])


class NothingChanges(unittest.TestCase):

    ORDINARY = [
        begin(3), change(0, 1, 40), change(1, 0, 10), change(1, 2, 30), change(2, 0, 25), change(0, 2, 5),
        job(0, 10, 30), job(1, 20, 60), job(2, 5, 5), job(1, 7, 200), best(), fewest(), least(), run(2), wait(6),
        times(3, 0), drop(1), job(0, 9, 40), best(), fewest(), least(), times(0, 3, 4), change(0, 1, 2), run(4),
        best(), wait(1), job(2, 1, 1), fewest(), change(1, 2, 0), change(2, 0, 0),
        would(1, 9, 70), ring(), hopeless(), soon(3), turn(0, 2), open_jobs(), look(1), done(), sums(), state(), run(3),
        done(), state(),
    ]

    REFUSED = [
        (begin(0), -22), (begin(8), -22), (begin(MOST), -22),
        (change(3, 0, 1), -2), (change(0, 3, 1), -2), (change(1, 1, 9), -22), (change(0, 1, 501), -22),
        (change(2, 1, MOST), -22),
        (job(3, 1, 1), -2), (job(0, 0, 1), -22), (job(0, 1001, 1), -22), (job(2, 1, 1000001), -22),
        (drop(40), -2), (drop(MOST), -2), (run(40), -2), (run(MOST), -2),
        (wait(0), -22), (wait(1001), -22),
        (times(1, 1), -22), (times(40), -2), (times(40, 40), -22),
        (would(3, 1, 1), -2), (would(MOST, 0, MOST), -2), (would(0, 0, 1), -22), (would(1, 1001, 1), -22),
        (would(2, 1, 1000001), -22), (soon(40), -2), (soon(MOST), -2), (turn(3, 0), -2), (turn(0, 3), -2),
        (turn(MOST, MOST), -2), (look(40), -2), (look(MOST), -2),
    ]

    def test_one_refusal_put_in_at_every_place(self):
        plain = told(*self.ORDINARY)
        self.assertTrue(all(answer[0] >= 0 for answer in plain))
        for refused, number in self.REFUSED:
            for place in range(1, len(self.ORDINARY) + 1):
                mixed = told(*self.ORDINARY[:place], refused, *self.ORDINARY[place:])
                self.assertEqual(mixed, plain[:place] + [[number]] + plain[place:], (refused, place))

    def test_all_refusals_put_in_at_every_place(self):
        plain = told(*self.ORDINARY)
        refused = [call for call, number in self.REFUSED]
        numbers = [[number] for call, number in self.REFUSED]
        for place in range(1, len(self.ORDINARY) + 1):
            mixed = told(*self.ORDINARY[:place], *refused, *self.ORDINARY[place:])
            self.assertEqual(mixed, plain[:place] + numbers + plain[place:], place)

    def test_nothing_that_is_told_is_another_after_a_refusal(self):
        for place in range(1, len(self.ORDINARY) + 1):
            first = self.ORDINARY[:place]
            plain = told(*first, *all_told(4, 6))[place:]
            for refused, number in self.REFUSED:
                self.assertEqual(told(*first, refused, *all_told(4, 6))[place:], [[number]] + plain, (refused, place))

    def test_too_many_changes_nothing_that_is_told(self):
        seven = [begin(2), change(0, 1, 9), *SEVEN_OPEN]
        forty = [begin(2), change(0, 1, 9), job(1, 3, 2), job(0, 5, 100), run(0)]
        for number in range(2, 40):
            forty += [job(0, 1, 1), drop(number)]
        for first, refused in ((seven, job(1, 2, 3)), (seven, would(1, 2, 3)), (forty, job(1, 2, 3))):
            plain = told(*first, *all_told(3, 41))[len(first):]
            self.assertEqual(told(*first, refused, *all_told(3, 41))[len(first):], [[-28]] + plain)

    def test_what_only_tells_changes_nothing(self):
        plain = told(*self.ORDINARY)
        for place in range(1, len(self.ORDINARY) + 1):
            first = self.ORDINARY[:place]
            tells = all_told(3, 6)
            mixed = told(*first, *tells, *tells, *self.ORDINARY[place:])
            self.assertEqual(mixed[:place] + mixed[place + 2 * len(tells):], plain, place)
            self.assertEqual(mixed[place:place + len(tells)], mixed[place + len(tells):place + 2 * len(tells)], place)

    def test_an_eighth_open_job_takes_no_number(self):
        calls = [begin(1), *SEVEN_OPEN, job(0, 1, 1), best(), drop(3), job(0, 1, 1), best()]
        expected = [[-28], [7, 0, 1, 2, 3, 4, 5, 6], [6], [7], [7, 0, 1, 2, 4, 5, 6, 7]]
        self.assertEqual(told(*calls)[8:], expected)

    def test_a_forty_first_job_opens_nothing(self):
        calls = [begin(1)]
        for number in range(39):
            calls += [job(0, 1, 1), drop(number)]
        calls += [job(0, 2, 1), job(0, 3, 1), best(), times(40)]
        self.assertEqual(told(*calls)[-4:], [[39], [-28], [2, 39], [-2]])

    def test_what_is_open_no_more_stays_as_it_was(self):
        calls = [begin(2), change(0, 1, 8), job(0, 4, 9), job(1, 3, 9), job(1, 2, 9), run(0), drop(2)]
        calls += [run(0), run(2), drop(0), drop(2), times(0), times(2), best(), wait(1)]
        self.assertEqual(told(*calls)[7:], [[-2]] * 6 + [[15, 1], [5]])


if __name__ == "__main__":
    unittest.main()

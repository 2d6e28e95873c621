"""The edges that the document names."""

import unittest

from calling import MOST, begin, best, change, drop, fewest, job, last, least, run, times, told, wait


class Begin(unittest.TestCase):

    def test_one_to_seven_flavours(self):
        for flavours in range(9):
            self.assertEqual(told(begin(flavours)), [[0 if 1 <= flavours <= 7 else -22]])

    def test_as_many_flavours_as_told(self):
        for flavours in range(1, 8):
            calls = [begin(flavours), job(flavours - 1, 1, 1), job(flavours, 1, 1)]
            self.assertEqual(told(*calls), [[0], [0], [-2]])

    def test_a_second_begin_starts_all_anew(self):
        first = [begin(3), change(0, 1, 50), change(1, 0, 60), job(0, 5, 9), job(2, 5, 9), run(0), wait(30)]
        second = [begin(2), best(), fewest(), least(), times(), drop(1), run(0), times(1), job(2, 1, 1),
                  change(0, 1, 7), change(1, 0, 8), job(1, 4, 3), run(0), job(0, 2, 100), best()]
        expected = [[0], [0], [0, 0], [0, 0], [0], [-2], [-2], [-2], [-2],
                    [0], [0], [0], [4, 0, 1], [1], [14, 1]]
        self.assertEqual(told(*first, *second)[len(first):], expected)
        self.assertEqual(told(*second), expected)

    def test_a_second_begin_with_as_many_flavours(self):
        calls = [begin(2), change(0, 1, 50), job(0, 5, 9), run(0), begin(2), change(0, 1, 1), job(1, 3, 9), run(0)]
        self.assertEqual(told(*calls)[4:], [[0], [0], [0], [3, 0, 0]])

    def test_forty_jobs_anew_behind_a_second_begin(self):
        forty = []
        for number in range(40):
            forty += [job(0, 1, 1), drop(number)]
        calls = [begin(1), *forty, job(0, 1, 1), begin(1), *forty, job(0, 1, 1)]
        answers = told(*calls)
        self.assertEqual(answers[81], [-28])
        self.assertEqual(answers[83::2], [[number] for number in range(40)] + [[-28]])

    def test_a_second_begin_that_is_refused_changes_nothing(self):
        first = [begin(2), change(0, 1, 50), change(1, 0, 20), job(0, 5, 9), job(1, 5, 9), job(1, 7, 9), run(0),
                 wait(3)]
        rest = [best(), fewest(), least(), times(2, 1), change(0, 1, 4), job(0, 1, 1), drop(1), run(2)]
        plain = told(*first, *rest)
        for flavours in (0, 8, MOST):
            mixed = told(*first, begin(flavours), *rest)
            self.assertEqual(mixed, plain[:len(first)] + [[-22]] + plain[len(first):])


class Change(unittest.TestCase):

    def test_minutes(self):
        calls = [begin(2), change(0, 1, 500), change(0, 1, 501), change(0, 1, 0), change(0, 1, MOST), change(0, 1, 1)]
        self.assertEqual(told(*calls)[1:], [[0], [-22], [500], [-22], [0]])

    def test_from_a_flavour_to_itself(self):
        for minutes in (0, 1, 500, 501):
            self.assertEqual(last(begin(7), change(6, 6, minutes)), [-22])
        self.assertEqual(last(begin(1), change(0, 0, 0)), [-22])

    def test_each_way_has_its_own_minutes(self):
        calls = [begin(7)]
        pairs = [(f, g) for f in range(7) for g in range(7) if f != g]
        calls += [change(f, g, 10 * f + g) for f, g in pairs]
        calls += [change(f, g, 0) for f, g in pairs]
        expected = [[0]] * 43 + [[10 * f + g] for f, g in pairs]
        self.assertEqual(told(*calls), expected)

    def test_the_longest_change_is_run(self):
        calls = [begin(2), change(0, 1, 500), job(0, 1, 9), job(1, 1, 9), run(0), run(1)]
        self.assertEqual(told(*calls)[4:], [[1, 0, 0], [502, 500, 493]])

    def test_from_now_on(self):
        calls = [begin(2), change(0, 1, 30), job(0, 1, 99), job(1, 1, 99), run(0), best(), change(0, 1, 8), best(),
                 times(1), run(1)]
        self.assertEqual(told(*calls)[5:], [[32, 1], [30], [10, 1], [0, 10], [10, 8, 0]])


class Job(unittest.TestCase):

    def test_minutes(self):
        for minutes, number in ((0, -22), (1, 0), (1000, 0), (1001, -22), (MOST, -22)):
            self.assertEqual(last(begin(1), job(0, minutes, 1)), [number])
        self.assertEqual(last(begin(1), job(0, 1, 0), run(0)), [1, 0, 1])
        self.assertEqual(last(begin(1), job(0, 1000, 0), run(0)), [1000, 0, 1000])

    def test_due(self):
        for due, number in ((0, 0), (1000000, 0), (1000001, -22), (MOST, -22)):
            self.assertEqual(last(begin(1), job(0, 1, due)), [number])
        self.assertEqual(last(begin(1), job(0, 1, 1000000), run(0)), [1, 0, 0])

    def test_seven_open_and_an_eighth(self):
        calls = [begin(1)] + [job(0, 1, 1)] * 8
        self.assertEqual(told(*calls)[1:], [[0], [1], [2], [3], [4], [5], [6], [-28]])

    def test_one_more_once_one_of_seven_is_open_no_more(self):
        for freed in (drop(6), run(0)):
            calls = [begin(1)] + [job(0, 1, 1)] * 7 + [freed, job(0, 1, 1), job(0, 1, 1)]
            self.assertEqual(told(*calls)[-2:], [[7], [-28]])

    def test_forty_ever_and_one_more(self):
        for ended in (drop, run):
            calls = [begin(1)]
            for number in range(40):
                calls += [job(0, 1, 1), ended(number)]
            calls += [job(0, 1, 1)]
            self.assertEqual(told(*calls)[1::2], [[number] for number in range(40)] + [[-28]])

    def test_the_fortieth_is_run_as_any(self):
        calls = [begin(2), change(0, 1, 3)]
        for number in range(39):
            calls += [job(0, 1, 1000), run(number)]
        calls += [job(1, 2, 40), best(), times(39), run(39), drop(39)]
        self.assertEqual(told(*calls)[-5:], [[39], [44, 39], [1, 44], [44, 3, 4], [-2]])


class Wait(unittest.TestCase):

    def test_minutes(self):
        calls = [begin(1), wait(0), wait(1), wait(1000), wait(1001), wait(MOST), wait(1)]
        self.assertEqual(told(*calls)[1:], [[-22], [1], [1001], [-22], [-22], [1002]])

    def test_late_for_having_waited(self):
        calls = [begin(1), job(0, 5, 10), wait(5), fewest(), wait(1), fewest(), least(), times(0), run(0)]
        self.assertEqual(told(*calls)[3:], [[0, 10, 0], [6], [1, 11, 0], [1, 11, 0], [1, 11], [11, 0, 1]])

    def test_what_is_on_the_line_stays(self):
        calls = [begin(2), change(0, 1, 9), job(0, 1, 1), job(1, 1, 1), run(0), wait(100), run(1)]
        self.assertEqual(last(*calls), [111, 9, 110])

    def test_nothing_stays_on_a_line_that_only_waited(self):
        calls = [begin(2), change(0, 1, 9), change(1, 0, 9), wait(100), job(1, 1, 1), run(0)]
        self.assertEqual(last(*calls), [101, 0, 100])


class Times(unittest.TestCase):

    OPEN = [begin(2), change(0, 1, 10), change(1, 0, 20), job(0, 5, 5), job(1, 6, 20), job(0, 7, 12)]

    def test_no_job(self):
        self.assertEqual(last(begin(1), times()), [0])
        self.assertEqual(last(*self.OPEN, times()), [0])

    def test_one_job(self):
        self.assertEqual(last(*self.OPEN, times(0)), [0, 5])
        self.assertEqual(last(*self.OPEN, times(1)), [0, 6])
        self.assertEqual(last(*self.OPEN, run(0), times(1)), [1, 21])

    def test_some_and_all_in_any_order(self):
        self.assertEqual(last(*self.OPEN, times(2, 0)), [1, 7, 12])
        self.assertEqual(last(*self.OPEN, times(0, 2, 1)), [1, 5, 12, 28])
        self.assertEqual(last(*self.OPEN, times(2, 1, 0)), [2, 7, 23, 48])

    def test_seven_jobs(self):
        calls = [begin(1)] + [job(0, 1, due) for due in range(7)] + [times(6, 5, 4, 3, 2, 1, 0)]
        self.assertEqual(last(*calls), [4, 1, 2, 3, 4, 5, 6, 7])

    def test_ten_jobs(self):
        self.assertEqual(last(begin(1), *[job(0, 1, 1)] * 7, times(*range(10))), [-2])
        self.assertEqual(last(begin(1), *[job(0, 1, 1)] * 7, times(*range(9), 0)), [-22])
        self.assertEqual(told(begin(1), times(*range(10)), wait(4)), [[0], [-2], [4]])

    def test_one_told_twice(self):
        self.assertEqual(last(*self.OPEN, times(0, 0)), [-22])
        self.assertEqual(last(*self.OPEN, times(0, 1, 2, 0)), [-22])

    def test_it_only_tells(self):
        calls = [*self.OPEN, best(), times(2, 1, 0), best(), times(2, 1, 0)]
        answers = told(*calls)
        self.assertEqual(answers[-4:-2], answers[-2:])


class Largest(unittest.TestCase):

    def test_arguments_of_each_call(self):
        calls = [begin(MOST), begin(7), change(MOST, MOST, MOST), change(0, 1, MOST), job(MOST, MOST, MOST),
                 job(0, MOST, MOST), job(0, 1, MOST), drop(MOST), run(MOST), wait(MOST), times(MOST),
                 times(*[MOST] * 10), times(*range(MOST - 9, MOST + 1)), best()]
        expected = [[-22], [0], [-2], [-22], [-2], [-22], [-22], [-2], [-2], [-22], [-2], [-22], [-2], [0]]
        self.assertEqual(told(*calls), expected)

    def test_four_hundred_calls_with_seven_open(self):
        calls = [begin(7)]
        for flavour in range(7):
            calls += [change(flavour, g, 500 - 7 * flavour - g) for g in range(7) if g != flavour]
        calls += [job(flavour, 1000 - flavour, 900 * flavour) for flavour in range(7)]
        calls += [least(), fewest(), best()] * 116
        calls += [wait(1000)] * (400 - len(calls))
        answers = told(*calls)
        self.assertEqual(len(answers), 400)
        self.assertEqual(answers[50:53], answers[-5:-2])
        self.assertEqual(answers[-1], [2000])


if __name__ == "__main__":
    unittest.main()

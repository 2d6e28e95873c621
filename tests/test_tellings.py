"""The edges of the calls that only tell: would, ring, hopeless, soon, turn, open, look, done, sums and state."""

import unittest

from calling import (MOST, all_told, begin, best, change, done, drop, fewest, hopeless, job, last, look, open_jobs,
                     ring, run, soon, state, sums, told, turn, wait, would)


class Would(unittest.TestCase):

    def test_nothing_open(self):
        self.assertEqual(last(begin(1), would(0, 10, 10)), [10, 0])
        self.assertEqual(last(begin(1), would(0, 10, 9)), [10, 1])
        self.assertEqual(last(begin(1), wait(5), would(0, 10, 15)), [10, 0])
        self.assertEqual(last(begin(1), wait(5), would(0, 10, 14)), [10, 1])

    def test_nothing_open_and_a_flavour_on_the_line(self):
        ran = [begin(2), change(0, 1, 7), change(1, 0, 70), job(0, 5, 0), run(0)]
        self.assertEqual(told(*ran, would(1, 3, 15), would(1, 3, 14), would(0, 3, 8), would(0, 3, 7))[5:],
                         [[10, 0], [10, 1], [3, 0], [3, 1]])

    def test_six_open_and_seven(self):
        calls = [begin(1)] + [job(0, 10, 70)] * 6
        self.assertEqual(told(*calls, would(0, 10, 70), would(0, 11, 70), would(0, 10, 9))[7:],
                         [[10, 0], [11, 1], [10, 1]])
        self.assertEqual(last(*calls, job(0, 10, 70), would(0, 10, 70)), [-28])

    def test_six_open_of_all_flavours(self):
        calls = [begin(7)]
        calls += [change(f, g, 1 if g == f - 1 else 500) for f in range(7) for g in range(7) if f != g]
        calls += [job(flavour, 1, 1000000) for flavour in range(7) if flavour != 3]
        # Without it 6 5 4 and 2 1 0 are two chains, with 500 between them.
        self.assertEqual(last(*calls, best())[0], 510)
        self.assertEqual(last(*calls, would(3, 1, 1000000)), [0, 0])
        self.assertEqual(last(*calls, would(6, 1, 1000000)), [1, 0])

    def test_minutes_and_due(self):
        self.assertEqual(last(begin(1), would(0, 1, 0)), [1, 1])
        self.assertEqual(last(begin(1), would(0, 1000, 1000000)), [1000, 0])
        self.assertEqual(last(begin(7), would(6, 1000, 0)), [1000, 1])

    # 0 to 1 takes 100, over 2 it takes 10; 1 is never left soon.
    OVER_A_THIRD = [begin(3), change(0, 1, 100), change(0, 2, 5), change(2, 1, 5), change(1, 0, 300), change(1, 2, 300),
                    change(2, 0, 300), job(0, 10, 1000), run(0), job(1, 10, 1000)]

    def test_sooner_over_a_third(self):
        self.assertEqual(last(*self.OVER_A_THIRD, best()), [120, 1])
        self.assertEqual(last(*self.OVER_A_THIRD, would(2, 1, 1000)), [0, 0])
        self.assertEqual(last(*self.OVER_A_THIRD, would(2, 89, 1000)), [0, 0])

    def test_no_later_over_a_third(self):
        self.assertEqual(last(*self.OVER_A_THIRD, would(2, 90, 1000)), [0, 0])
        self.assertEqual(last(*self.OVER_A_THIRD, would(2, 91, 1000)), [1, 0])

    def test_how_many_are_late_over_a_third(self):
        # In time behind it, late without it.
        calls = [*self.OVER_A_THIRD[:-1], job(1, 10, 60)]
        tells = [fewest(), would(2, 1, 100), would(2, 1, 15), would(2, 30, 60), would(2, 31, 60)]
        self.assertEqual(told(*calls, *tells)[10:], [[1, 120, 1], [0, 0], [0, 1], [0, 0], [0, 1]])

    def test_how_many_are_late_at_least_not_where_all_ends_soonest(self):
        # 1 first ends in minute 35 with job 0 late; 0 first ends in minute 60 and none is.
        calls = [begin(2), change(0, 1, 30), change(1, 0, 5), job(0, 10, 10)]
        self.assertEqual(last(*calls, would(1, 20, 100)), [25, 0])
        self.assertEqual(last(*calls, job(1, 20, 100), best()), [35, 1, 0])
        self.assertEqual(last(*calls, would(1, 20, 59)), [25, 1])

    def test_of_all_not_it_alone(self):
        calls = [begin(1), job(0, 10, 0), job(0, 10, 5)]
        self.assertEqual(told(*calls, would(0, 10, 1000), would(0, 10, 10), would(0, 10, 9))[3:],
                         [[10, 2], [10, 2], [10, 3]])

    def test_what_was_late_before_does_not_count(self):
        calls = [begin(1), job(0, 10, 0), job(0, 10, 0), run(0), run(1), would(0, 10, 30)]
        self.assertEqual(last(*calls), [10, 0])

    def test_dropped_jobs_do_not_count(self):
        calls = [begin(1), job(0, 10, 0), job(0, 10, 100), drop(0), would(0, 10, 30)]
        self.assertEqual(last(*calls), [10, 0])

    def test_it_only_tells(self):
        first = [begin(2), change(0, 1, 5), job(0, 10, 10), job(1, 3, 9), run(0)]
        plain = told(*first, *all_told(2, 3))[5:]
        self.assertEqual(told(*first, would(1, 4, 4), *all_told(2, 3))[6:], plain)
        self.assertEqual(told(*first, would(1, 4, 4), job(0, 1, 1), would(1, 4, 4), job(0, 1, 1))[6::2], [[2], [3]])

    def test_it_tells_what_one_job_more_does(self):
        first = [begin(3), change(0, 1, 12), change(1, 0, 4), change(0, 2, 9), change(2, 0, 8), change(1, 2, 1),
                 change(2, 1, 20), job(0, 10, 40), job(1, 6, 12), job(2, 7, 30), job(1, 3, 60), run(0)]
        for given in ((0, 5, 30), (1, 1, 1), (2, 9, 60), (2, 1000, 0), (1, 3, 1000000)):
            without = last(*first, best())[0]
            more, late = last(*first, would(*given))
            self.assertEqual(more, last(*first, job(*given), best())[0] - without)
            self.assertEqual(late, last(*first, job(*given), fewest())[0])


class Ring(unittest.TestCase):

    def test_one_flavour(self):
        self.assertEqual(last(begin(1), ring()), [0, 0])
        self.assertEqual(last(begin(1), job(0, 5, 5), run(0), wait(3), ring()), [0, 0])

    def test_two_flavours_there_and_back(self):
        self.assertEqual(last(begin(2), ring()), [0, 0, 1])
        self.assertEqual(last(begin(2), change(0, 1, 30), ring()), [30, 0, 1])
        self.assertEqual(last(begin(2), change(1, 0, 5), ring()), [5, 0, 1])
        self.assertEqual(last(begin(2), change(0, 1, 500), change(1, 0, 500), ring()), [1000, 0, 1])

    def test_three_flavours_either_way_round(self):
        there = [change(0, 1, 10), change(1, 2, 10), change(2, 0, 10)]
        for minutes, expected in ((9, [27, 0, 2, 1]), (10, [30, 0, 1, 2]), (11, [30, 0, 1, 2])):
            back = [change(0, 2, minutes), change(2, 1, minutes), change(1, 0, minutes)]
            self.assertEqual(last(begin(3), *there, *back, ring()), expected)

    def test_the_way_back_counts(self):
        calls = [begin(3), change(0, 1, 1), change(1, 2, 1), change(2, 0, 99), change(0, 2, 20), change(2, 1, 20),
                 change(1, 0, 20)]
        self.assertEqual(last(*calls, ring()), [60, 0, 2, 1])
        self.assertEqual(told(*calls, change(2, 0, 58), ring())[-2:], [[99], [60, 0, 1, 2]])

    def test_seven_flavours_one_ring_alone_is_near(self):
        along = [0, 4, 2, 6, 1, 5, 3]
        near = dict(zip(along, along[1:] + [0]))
        calls = [begin(7)]
        calls += [change(f, g, 1 if near[f] == g else 500) for f in range(7) for g in range(7) if f != g]
        self.assertEqual(last(*calls, ring()), [7, *along])

    def test_seven_flavours_all_far(self):
        calls = [begin(7)] + [change(f, g, 500) for f in range(7) for g in range(7) if f != g]
        self.assertEqual(last(*calls, ring()), [3500, 0, 1, 2, 3, 4, 5, 6])

    def test_no_change_takes_any(self):
        for flavours in range(1, 8):
            self.assertEqual(last(begin(flavours), ring()), [0, *range(flavours)])

    def test_alike_ones_the_lesser_flavour_where_they_first_differ(self):
        # All rings that don't go from 0 to 1 or from 1 to 2 are alike.
        calls = [begin(4), change(0, 1, 7), change(1, 2, 7)]
        self.assertEqual(last(*calls, ring()), [0, 0, 2, 1, 3])
        # From 2 to 1 neither: 0 2 3 1 is the first one left.
        self.assertEqual(last(*calls, change(2, 1, 7), ring()), [0, 0, 2, 3, 1])
        # 0 1 3 2, 0 3 1 2 and 0 3 2 1 take 7, alike.
        self.assertEqual(last(*calls, change(2, 1, 7), change(0, 2, 9), ring()), [7, 0, 1, 3, 2])

    def test_a_lesser_flavour_later_on_does_not_count(self):
        # 0 1 3 2 and 0 2 1 3 take alike many minutes, and all others more.
        pairs = [(f, g) for f in range(4) for g in range(4) if f != g]
        near = [(0, 1), (1, 3), (3, 2), (2, 0), (0, 2), (2, 1), (3, 0)]
        calls = [begin(4)] + [change(f, g, 5 if (f, g) in near else 50) for f, g in pairs]
        self.assertEqual(last(*calls, ring()), [20, 0, 1, 3, 2])

    def test_each_flavour_once_also_where_it_is_shorter_over_a_third(self):
        calls = [begin(3), change(0, 1, 100), change(0, 2, 5), change(2, 1, 5), change(1, 0, 5), change(1, 2, 200),
                 change(2, 0, 200)]
        self.assertEqual(last(*calls, ring()), [15, 0, 2, 1])
        self.assertEqual(last(*calls, change(1, 0, 500), ring()), [500, 0, 1, 2])

    def test_what_is_on_the_line_and_open_does_not_count(self):
        calls = [begin(3), change(0, 1, 10), change(1, 2, 20), change(2, 0, 30), change(0, 2, 50), change(2, 1, 50)]
        self.assertEqual(last(*calls, ring()), [60, 0, 1, 2])
        self.assertEqual(last(*calls, job(2, 5, 5), job(1, 5, 5), run(0), wait(9), ring()), [60, 0, 1, 2])

    def test_a_change_told_anew_and_a_second_begin(self):
        calls = [begin(2), change(0, 1, 10), ring(), change(0, 1, 4), ring(), begin(2), ring(), begin(1), ring()]
        self.assertEqual(told(*calls)[2::2], [[10, 0, 1], [4, 0, 1], [0, 0, 1], [0, 0]])


class Hopeless(unittest.TestCase):

    def test_nothing_open(self):
        self.assertEqual(last(begin(1), hopeless()), [0])
        self.assertEqual(last(begin(1), job(0, 5, 0), job(0, 5, 0), run(0), drop(1), hopeless()), [0])

    def test_due_just_when_it_would_end(self):
        self.assertEqual(last(begin(1), job(0, 10, 10), hopeless()), [0])
        self.assertEqual(last(begin(1), job(0, 10, 9), hopeless()), [1, 0])
        self.assertEqual(told(begin(1), job(0, 10, 30), wait(20), hopeless(), wait(1), hopeless())[3::2], [[0], [1, 0]])

    def test_the_change_counts(self):
        ran = [begin(2), change(0, 1, 7), change(1, 0, 100), job(0, 10, 10), run(0)]
        self.assertEqual(last(*ran, job(1, 3, 20), hopeless()), [0])
        self.assertEqual(last(*ran, job(1, 3, 19), hopeless()), [1, 1])
        self.assertEqual(last(*ran, job(0, 3, 13), hopeless()), [0])
        self.assertEqual(last(*ran, job(0, 3, 12), hopeless()), [1, 1])

    def test_no_change_onto_a_line_with_nothing_on_it(self):
        calls = [begin(2), change(0, 1, 100), change(1, 0, 100), job(0, 10, 10), job(1, 10, 10), hopeless()]
        self.assertEqual(last(*calls), [0])

    def test_each_is_looked_at_as_the_next(self):
        # In no order both are in time, but either one is if it's run next.
        calls = [begin(1), job(0, 10, 10), job(0, 10, 10), hopeless(), fewest(), run(0), hopeless()]
        self.assertEqual(told(*calls)[3:], [[0], [1, 20, 0, 1], [10, 0, 0], [1, 1]])

    def test_rising(self):
        dues = [9, 10, 0, 11, 5, 1000000, 8]
        calls = [begin(1)] + [job(0, 10, due) for due in dues] + [hopeless(), drop(4), job(0, 10, 0), hopeless()]
        self.assertEqual(told(*calls)[8::3], [[4, 0, 2, 4, 6], [4, 0, 2, 6, 7]])

    def test_all_of_seven(self):
        calls = [begin(7)] + [job(flavour, 1, 0) for flavour in range(7)] + [hopeless()]
        self.assertEqual(last(*calls), [7, 0, 1, 2, 3, 4, 5, 6])

    def test_late_if_run_next_though_it_is_in_time_over_a_third(self):
        calls = [begin(3), change(0, 1, 100), change(0, 2, 5), change(2, 1, 5), job(0, 10, 99), run(0), job(1, 10, 60),
                 job(2, 10, 60), hopeless(), fewest()]
        self.assertEqual(told(*calls)[-2:], [[1, 1], [0, 40, 2, 1]])


class Soon(unittest.TestCase):

    CHANGES = [begin(2), change(0, 1, 30), change(1, 0, 5)]

    def test_onto_a_line_with_nothing_on_it(self):
        calls = [*self.CHANGES, job(0, 10, 0), job(1, 20, 0), soon(0), soon(1), wait(7), soon(0), soon(1)]
        self.assertEqual(told(*calls)[5:], [[10, 0], [20, 0], [7], [17, 0], [27, 0]])

    def test_onto_the_same_flavour_and_onto_another(self):
        calls = [*self.CHANGES, job(1, 10, 0), run(0), job(1, 4, 0), job(0, 4, 0), soon(1), soon(2), run(2), soon(1)]
        self.assertEqual(told(*calls)[-4:], [[14, 0], [19, 5], [19, 5, 19], [53, 30]])

    def test_it_is_what_run_tells(self):
        calls = [*self.CHANGES, job(0, 10, 12), job(1, 20, 13), job(0, 30, 14)]
        for order in ((0, 1, 2), (0, 2, 1), (1, 0, 2), (2, 1, 0)):
            steps = [each for number in order for each in (soon(number), run(number))]
            answers = told(*calls, *steps)[6:]
            self.assertEqual(answers[::2], [answer[:2] for answer in answers[1::2]])

    def test_straight_also_where_it_is_shorter_over_a_third(self):
        calls = [begin(3), change(0, 1, 100), change(0, 2, 5), change(2, 1, 5), job(0, 10, 0), run(0), job(1, 1, 0)]
        self.assertEqual(last(*calls, soon(1)), [111, 100])

    def test_it_only_tells(self):
        calls = [*self.CHANGES, job(0, 10, 0), job(1, 20, 0), soon(1), soon(1), soon(0), state(), done()]
        self.assertEqual(told(*calls)[-5:], [[20, 0], [20, 0], [10, 0], [0, 2, 2, 2, 0], [0]])


class Turn(unittest.TestCase):

    def test_from_a_flavour_to_itself(self):
        for flavours in range(1, 8):
            pairs = [(f, g) for f in range(flavours) for g in range(flavours) if f != g]
            calls = [begin(flavours)] + [change(f, g, 9) for f, g in pairs]
            tells = [turn(f, f) for f in range(flavours)]
            self.assertEqual(told(*calls, *tells)[len(calls):], [[0]] * flavours)

    def test_none_at_first(self):
        self.assertEqual(told(begin(2), turn(0, 1), turn(1, 0))[1:], [[0], [0]])

    def test_each_way_has_its_own_minutes(self):
        pairs = [(f, g) for f in range(7) for g in range(7) if f != g]
        calls = [begin(7)] + [change(f, g, 10 * f + g) for f, g in pairs] + [turn(f, g) for f, g in pairs]
        self.assertEqual(told(*calls)[43:], [[10 * f + g] for f, g in pairs])

    def test_as_told_last(self):
        calls = [begin(2), change(0, 1, 500), turn(0, 1), change(0, 1, 0), turn(0, 1), change(0, 1, 3), turn(0, 1)]
        self.assertEqual(told(*calls)[2::2], [[500], [0], [3]])

    def test_straight_also_where_it_is_shorter_over_a_third(self):
        calls = [begin(3), change(0, 1, 100), change(0, 2, 5), change(2, 1, 5), turn(0, 1)]
        self.assertEqual(last(*calls), [100])

    def test_whatever_is_on_the_line(self):
        calls = [begin(2), change(0, 1, 8), job(1, 1, 1), run(0), turn(0, 1), turn(1, 0), turn(1, 1), state()]
        self.assertEqual(told(*calls)[4:], [[8], [0], [0], [1, 2, 1, 0, 2]])

    def test_a_second_begin(self):
        self.assertEqual(told(begin(3), change(0, 1, 8), begin(2), turn(0, 1), turn(0, 2))[3:], [[0], [-2]])


class Open(unittest.TestCase):

    def test_at_first(self):
        self.assertEqual(last(begin(3), open_jobs()), [0])

    def test_rising(self):
        calls = [begin(1)] + [job(0, 1, 1)] * 7
        calls += [open_jobs(), drop(3), run(5), open_jobs(), job(0, 1, 1), run(0), job(0, 1, 1), open_jobs()]
        self.assertEqual(told(*calls)[8:],
                         [[7, 0, 1, 2, 3, 4, 5, 6], [6], [1, 0, 0], [5, 0, 1, 2, 4, 6], [7], [2, 0, 1], [8],
                          [6, 1, 2, 4, 6, 7, 8]])

    def test_numbers_above_nine(self):
        calls = [begin(1)]
        for number in range(9):
            calls += [job(0, 1, 1), drop(number)]
        self.assertEqual(last(*calls, *[job(0, 1, 1)] * 3, open_jobs()), [3, 9, 10, 11])

    def test_all_run_or_dropped(self):
        self.assertEqual(last(begin(1), job(0, 1, 1), job(0, 1, 1), drop(1), run(0), open_jobs()), [0])

    def test_a_second_begin(self):
        self.assertEqual(last(begin(1), job(0, 1, 1), begin(1), open_jobs()), [0])


class Look(unittest.TestCase):

    def test_the_last_job_and_one_more(self):
        calls = [begin(7), look(0), job(6, 1000, 1000000), look(0), look(1), job(0, 1, 0), look(1), look(2)]
        self.assertEqual(told(*calls)[1:], [[-2], [0], [6, 1000, 1000000], [-2], [1], [0, 1, 0], [-2]])

    def test_forty_jobs_and_one_more(self):
        calls = [begin(7)]
        for number in range(40):
            calls += [job(number % 7, 1 + number, 2 * number), drop(number)]
        calls += [look(number) for number in range(41)]
        self.assertEqual(told(*calls)[81:], [[number % 7, 1 + number, 2 * number] for number in range(40)] + [[-2]])

    def test_a_job_that_was_run_or_dropped(self):
        calls = [begin(2), job(1, 5, 6), job(0, 7, 8), run(0), drop(1), wait(100), look(0), look(1)]
        self.assertEqual(told(*calls)[-2:], [[1, 5, 6], [0, 7, 8]])

    def test_a_second_begin(self):
        self.assertEqual(told(begin(2), job(1, 5, 6), begin(2), look(0), job(0, 1, 2), look(0))[3:],
                         [[-2], [0], [0, 1, 2]])


class DoneSumsAndState(unittest.TestCase):

    TELLS = [done(), sums(), state()]

    def tells(self, *calls):
        return told(*calls, *self.TELLS)[-3:]

    def test_at_first(self):
        for flavours in range(1, 8):
            self.assertEqual(self.tells(begin(flavours)), [[0], [0, 0, 0, 0, 0, 0], [0, flavours, 0, 0, 0]])

    def test_jobs_that_are_open(self):
        calls = [begin(3), change(0, 1, 9), job(0, 5, 0), job(2, 5, 0)]
        self.assertEqual(self.tells(*calls), [[0], [0, 0, 0, 0, 0, 0], [0, 3, 2, 2, 0]])

    def test_after_runs(self):
        calls = [begin(3), change(0, 1, 9), change(1, 2, 4), job(0, 5, 4), job(1, 6, 20), job(1, 7, 20), job(2, 8, 30)]
        self.assertEqual(self.tells(*calls, run(0)), [[1, 0, 5, 1], [0, 0, 5, 0, 1, 1], [5, 3, 4, 3, 1]])
        self.assertEqual(self.tells(*calls, run(0), run(2)),
                         [[2, 0, 5, 1, 2, 21, 1], [0, 9, 12, 0, 2, 2], [21, 3, 4, 2, 2]])
        self.assertEqual(self.tells(*calls, run(0), run(2), run(1), run(3)),
                         [[4, 0, 5, 1, 2, 21, 1, 1, 27, 7, 3, 39, 9], [0, 13, 26, 0, 4, 18], [39, 3, 4, 0, 3]])

    def test_due_just_when_it_ended(self):
        calls = [begin(1), job(0, 5, 5), job(0, 5, 9), run(0)]
        self.assertEqual(self.tells(*calls), [[1, 0, 5, 0], [0, 0, 5, 0, 0, 0], [5, 1, 2, 1, 1]])
        self.assertEqual(self.tells(*calls, run(1)), [[2, 0, 5, 0, 1, 10, 1], [0, 0, 10, 0, 1, 1], [10, 1, 2, 0, 1]])

    def test_after_drops(self):
        calls = [begin(2), change(0, 1, 9), job(0, 5, 0), job(1, 6, 0), job(0, 7, 0), drop(0), drop(2)]
        self.assertEqual(self.tells(*calls), [[0], [0, 0, 0, 0, 0, 0], [0, 2, 3, 1, 0]])
        self.assertEqual(self.tells(*calls, run(1)), [[1, 1, 6, 6], [0, 0, 6, 0, 1, 6], [6, 2, 3, 0, 2]])

    def test_after_waits(self):
        calls = [begin(2), change(0, 1, 9), wait(4), wait(1000), wait(1001), wait(0)]
        self.assertEqual(self.tells(*calls), [[0], [0, 0, 0, 1004, 0, 0], [1004, 2, 0, 0, 0]])
        calls += [job(0, 5, 1009), run(0), wait(1)]
        self.assertEqual(self.tells(*calls), [[1, 0, 1009, 0], [0, 0, 5, 1005, 0, 0], [1010, 2, 1, 0, 1]])

    def test_a_change_told_anew_does_not_change_what_was_done(self):
        calls = [begin(2), change(0, 1, 9), job(0, 5, 99), job(1, 6, 99), run(0), run(1), change(0, 1, 400)]
        self.assertEqual(self.tells(*calls), [[2, 0, 5, 0, 1, 20, 0], [0, 9, 11, 0, 0, 0], [20, 2, 2, 0, 2]])

    def test_after_a_second_begin(self):
        calls = [begin(3), change(0, 1, 9), job(0, 5, 0), job(1, 6, 0), job(0, 7, 0), run(0), run(1), wait(8), begin(2)]
        self.assertEqual(self.tells(*calls), [[0], [0, 0, 0, 0, 0, 0], [0, 2, 0, 0, 0]])
        calls += [job(1, 3, 1), run(0), wait(2)]
        self.assertEqual(self.tells(*calls), [[1, 0, 3, 2], [0, 0, 3, 2, 1, 2], [5, 2, 1, 0, 2]])

    def test_after_a_second_begin_that_is_refused(self):
        calls = [begin(3), job(0, 5, 0), run(0), wait(8)]
        for flavours in (0, 8, MOST):
            self.assertEqual(self.tells(*calls, begin(flavours)), [[1, 0, 5, 5], [0, 0, 5, 8, 1, 5], [13, 3, 1, 0, 1]])

    def test_one_more_than_the_flavour_on_the_line(self):
        for flavour in range(7):
            calls = [begin(7), state(), job(flavour, 1, 1), state(), run(0), state(), wait(1), state()]
            self.assertEqual([answer[-1] for answer in told(*calls)[1::2]], [0, 0, flavour + 1, flavour + 1])

    def test_forty_jobs_run(self):
        calls = [begin(2), change(0, 1, 3), change(1, 0, 500)]
        expected = [40]
        for number in range(40):
            calls += [job(number // 20, 1000, 1000 * number), run(number)]
            end = 1000 * (number + 1) + (3 if number >= 20 else 0)
            expected += [number, end, end - 1000 * number]
        self.assertEqual(self.tells(*calls),
                         [expected, [0, 3, 40000, 0, 40, 40060], [40003, 2, 40, 0, 2]])


if __name__ == "__main__":
    unittest.main()

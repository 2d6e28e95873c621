"""Where it usually breaks."""

import unittest

from calling import (begin, best, change, done, drop, fewest, hopeless, job, last, least, open_jobs, ring, run, soon,
                     state, sums, times, told, turn, wait, would)


class NothingOpen(unittest.TestCase):

    def test_at_first(self):
        self.assertEqual(told(begin(3), best(), fewest(), least()), [[0], [0], [0, 0], [0, 0]])

    def test_now_is_told(self):
        calls = [begin(3), wait(17), best(), fewest(), least(), times()]
        self.assertEqual(told(*calls)[2:], [[17], [0, 17], [0, 17], [0]])

    def test_once_all_are_run_or_dropped(self):
        # What was late then counts no more.
        calls = [begin(2), job(0, 5, 1), job(1, 5, 1), run(0), drop(1), best(), fewest(), least()]
        self.assertEqual(told(*calls)[5:], [[5], [0, 5], [0, 5]])

    def test_what_else_is_told(self):
        calls = [begin(3), hopeless(), open_jobs(), would(2, 4, 3), soon(0), state()]
        self.assertEqual(told(*calls)[1:], [[0], [0], [4, 1], [-2], [0, 3, 0, 0, 0]])
        calls = [begin(2), change(1, 0, 9), job(1, 5, 1), job(1, 5, 1), run(0), drop(1), hopeless(), open_jobs(),
                 would(0, 4, 18), soon(1), state()]
        self.assertEqual(told(*calls)[6:], [[0], [0], [13, 0], [-2], [5, 2, 2, 0, 2]])


class OneFlavour(unittest.TestCase):

    def test_what_else_is_told(self):
        calls = [begin(1), ring(), turn(0, 0), turn(0, 1), job(0, 5, 5), run(0), job(0, 5, 9), soon(1), hopeless(),
                 would(0, 2, 7), would(0, 2, 6), state()]
        self.assertEqual(told(*calls)[1:],
                         [[0, 0], [0], [-2], [0], [5, 0, 0], [1], [10, 0], [1, 1], [2, 1], [2, 2], [5, 1, 2, 1, 1]])

    def test_no_change_can_be_told(self):
        self.assertEqual(told(begin(1), change(0, 0, 5), change(0, 1, 5), change(1, 0, 5))[1:], [[-22], [-2], [-2]])

    def test_orders(self):
        calls = [begin(1), job(0, 30, 60), job(0, 10, 10), job(0, 20, 30), best(), fewest(), least(), run(1), run(2)]
        expected = [[60, 0, 1, 2], [0, 60, 1, 2, 0], [0, 60, 1, 2, 0], [10, 0, 0], [30, 0, 0]]
        self.assertEqual(told(*calls)[4:], expected)


class ShorterOverAThird(unittest.TestCase):

    BEGUN = [begin(3), change(0, 1, 100), change(0, 2, 5), change(2, 1, 5), change(1, 0, 300), change(1, 2, 300),
             change(2, 0, 300)]

    def test_a_change_goes_straight(self):
        calls = [*self.BEGUN, job(0, 10, 99), job(1, 10, 99), times(0, 1), best(), run(0), run(1)]
        self.assertEqual(told(*calls)[9:], [[1, 10, 120], [120, 0, 1], [10, 0, 0], [120, 100, 21]])

    def test_a_job_of_the_third_is_put_between(self):
        calls = [*self.BEGUN, job(0, 10, 99), job(1, 10, 99), job(2, 10, 99), best(), fewest(), least()]
        self.assertEqual(told(*calls)[10:], [[40, 0, 2, 1], [0, 40, 0, 2, 1], [0, 40, 0, 2, 1]])

    def test_one_job_more_ends_sooner(self):
        calls = [*self.BEGUN, job(0, 10, 0), job(1, 10, 0), best(), job(2, 1, 0), best()]
        self.assertEqual([told(*calls)[9], told(*calls)[11]], [[120, 0, 1], [31, 0, 2, 1]])

    def test_what_is_late_if_run_next_is_in_time_over_the_third(self):
        calls = [*self.BEGUN, job(0, 10, 99), run(0), job(1, 10, 60), job(2, 10, 60), times(1), fewest(), least()]
        self.assertEqual(told(*calls)[-3:], [[1, 120], [0, 40, 2, 1], [0, 40, 2, 1]])


    def test_what_else_is_told(self):
        calls = [*self.BEGUN, job(0, 10, 99), run(0), job(1, 10, 60), turn(0, 1), soon(1), hopeless(), would(2, 1, 99),
                 would(2, 1, 15), would(0, 1, 99), ring()]
        self.assertEqual(told(*calls)[10:], [[100], [120, 100], [1, 1], [0, 0], [0, 1], [1, 1], [310, 0, 2, 1]])


class OrdersThatEndAlike(unittest.TestCase):

    def test_the_lesser_job_first(self):
        calls = [begin(2), job(1, 10, 99), job(0, 10, 99), job(1, 10, 99), best(), fewest(), least()]
        self.assertEqual(told(*calls)[4:], [[30, 0, 1, 2], [0, 30, 0, 1, 2], [0, 30, 0, 1, 2]])

    def test_it_is_the_first_place_where_they_differ_that_counts(self):
        # One change of 5, whichever flavour goes first: 0 2 1 and 1 0 2 (and others) end alike.
        calls = [begin(2), change(0, 1, 5), change(1, 0, 5), job(0, 10, 99), job(1, 10, 99), job(0, 10, 99), best()]
        self.assertEqual(last(*calls), [35, 0, 2, 1])

    def test_a_lesser_job_later_on_does_not_count(self):
        # 0 3 1 2 and 1 2 0 3 end alike.
        changes = [change(0, 1, 5), change(1, 0, 5)]
        jobs = [job(0, 1, 99), job(1, 1, 99), job(1, 1, 99), job(0, 1, 99)]
        self.assertEqual(last(begin(2), *changes, *jobs, best()), [9, 0, 3, 1, 2])

    def test_as_many_late_but_sooner(self):
        # Job 2 is late in every order; behind 1 it takes no change.
        calls = [begin(2), change(0, 1, 5), change(1, 0, 50), job(0, 10, 10), job(1, 10, 99), job(1, 10, 0), fewest()]
        self.assertEqual(last(*calls), [1, 35, 0, 1, 2])

    def test_as_late_but_sooner(self):
        # In time in both orders, and the greater job first ends sooner.
        calls = [begin(2), change(0, 1, 50), change(1, 0, 5), job(0, 10, 99), job(1, 10, 99), fewest(), least()]
        self.assertEqual(told(*calls)[5:], [[0, 25, 1, 0], [0, 25, 1, 0]])

    def test_later_but_fewer_late(self):
        calls = [begin(2), change(0, 1, 50), change(1, 0, 5), job(0, 10, 10), job(1, 10, 99), best(), fewest(), least()]
        self.assertEqual(told(*calls)[5:], [[25, 1, 0], [0, 70, 0, 1], [0, 70, 0, 1]])

    def test_numbers_above_nine_count_as_numbers(self):
        calls = [begin(1)]
        for number in range(9):
            calls += [job(0, 1, 99), drop(number)]
        calls += [job(0, 1, 99)] * 3 + [best(), fewest(), least()]
        self.assertEqual(told(*calls)[-3:], [[3, 9, 10, 11], [0, 3, 9, 10, 11], [0, 3, 9, 10, 11]])


class DueJustWhenItEnds(unittest.TestCase):

    def test_it_is_not_late(self):
        calls = [begin(1), job(0, 10, 10), fewest(), least(), times(0), run(0)]
        self.assertEqual(told(*calls)[2:], [[0, 10, 0], [0, 10, 0], [0, 10], [10, 0, 0]])

    def test_a_minute_sooner_it_is(self):
        calls = [begin(1), job(0, 10, 9), fewest(), least(), times(0), run(0)]
        self.assertEqual(told(*calls)[2:], [[1, 10, 0], [1, 10, 0], [1, 10], [10, 0, 1]])

    def test_change_and_all(self):
        calls = [begin(2), change(0, 1, 7), job(0, 10, 10), job(1, 3, 20), run(0), fewest(), least(), times(1), run(1)]
        self.assertEqual(told(*calls)[5:], [[0, 20, 1], [0, 20, 1], [0, 20], [20, 7, 0]])


    def test_what_else_is_told(self):
        calls = [begin(2), change(0, 1, 7), job(0, 10, 10), job(1, 3, 20), run(0), hopeless(), soon(1), would(1, 5, 25),
                 run(1), done(), sums()]
        self.assertEqual(told(*calls)[5:], [[0], [20, 7], [5, 0], [20, 7, 0], [2, 0, 10, 0, 1, 20, 0],
                                            [0, 7, 13, 0, 0, 0]])
        calls = [begin(2), change(0, 1, 7), job(0, 10, 9), job(1, 3, 19), run(0), hopeless(), soon(1), would(1, 5, 24),
                 run(1), done(), sums()]
        self.assertEqual(told(*calls)[5:], [[1, 1], [20, 7], [5, 1], [20, 7, 1], [2, 0, 10, 1, 1, 20, 1],
                                            [0, 7, 13, 0, 2, 2]])


class SameFlavourTwice(unittest.TestCase):

    def test_what_else_is_told(self):
        calls = [begin(2), change(0, 1, 9), change(1, 0, 9), job(1, 4, 99), run(0), job(1, 4, 8), soon(1), hopeless(),
                 would(1, 3, 99), would(0, 3, 99), turn(1, 1), run(1), sums(), state()]
        self.assertEqual(told(*calls)[6:],
                         [[8, 0], [0], [3, 0], [12, 0], [0], [8, 0, 0], [0, 0, 8, 0, 0, 0], [8, 2, 2, 0, 2]])

    def test_no_change_between(self):
        calls = [begin(2), change(0, 1, 9), change(1, 0, 9), job(1, 4, 99), job(1, 4, 99), times(0, 1), run(0), run(1)]
        self.assertEqual(told(*calls)[5:], [[0, 4, 8], [4, 0, 0], [8, 0, 0]])

    def test_they_are_put_together(self):
        calls = [begin(2), change(0, 1, 9), change(1, 0, 9), job(0, 4, 99), job(1, 4, 99), job(0, 4, 99), best()]
        self.assertEqual(last(*calls), [21, 0, 2, 1])

    def test_what_is_on_the_line_goes_on(self):
        calls = [begin(2), change(0, 1, 9), change(1, 0, 9), job(1, 4, 99), run(0), job(0, 4, 99), job(1, 4, 99),
                 best()]
        self.assertEqual(last(*calls), [21, 2, 1])


class NothingOnTheLine(unittest.TestCase):

    def test_the_first_job_takes_no_change(self):
        for flavour in range(3):
            calls = [begin(3)] + [change(f, g, 40) for f in range(3) for g in range(3) if f != g]
            calls += [job(flavour, 5, 9), times(0), best(), run(0)]
            self.assertEqual(told(*calls)[-3:], [[0, 5], [5, 0], [5, 0, 0]])

    def test_a_dropped_job_puts_nothing_on_it(self):
        calls = [begin(2), change(0, 1, 40), job(0, 5, 9), job(1, 5, 9), drop(0), best(), run(1)]
        self.assertEqual(told(*calls)[5:], [[5, 1], [5, 0, 0]])

    def test_orders_only_told_put_nothing_on_it(self):
        calls = [begin(2), change(0, 1, 40), change(1, 0, 50), job(0, 5, 9), job(1, 5, 9), best(), fewest(), least(),
                 times(0, 1), run(1)]
        self.assertEqual(last(*calls), [5, 0, 0])


    def test_what_else_is_told(self):
        for flavour in range(3):
            calls = [begin(3)] + [change(f, g, 40) for f in range(3) for g in range(3) if f != g]
            calls += [would(flavour, 5, 5), job(flavour, 5, 5), soon(0), hopeless(), state(), run(0), sums(), state()]
            self.assertEqual(told(*calls)[7:], [[5, 0], [0], [5, 0], [0], [0, 3, 1, 1, 0], [5, 0, 0],
                                                [0, 0, 5, 0, 0, 0], [5, 3, 1, 0, flavour + 1]])


class DroppedThatWasBestFirst(unittest.TestCase):

    def test_the_others_are_ordered_anew(self):
        calls = [begin(3), change(0, 1, 1), change(0, 2, 30), change(1, 0, 30), change(1, 2, 2), change(2, 0, 30),
                 change(2, 1, 1), job(0, 10, 99), job(1, 10, 99), job(2, 10, 99), best(), drop(0), best(), fewest(),
                 least(), times(0, 1)]
        expected = [[33, 0, 1, 2], [2], [21, 2, 1], [0, 21, 2, 1], [0, 21, 2, 1], [-2]]
        self.assertEqual(told(*calls)[10:], expected)


class SevenOpen(unittest.TestCase):

    def test_a_chain_of_changes(self):
        # From each flavour only the one below it is near, so all go downwards.
        calls = [begin(7)]
        calls += [change(f, g, 1 if g == f - 1 else 500) for f in range(7) for g in range(7) if f != g]
        calls += [job(flavour, 1, 1000000) for flavour in range(7)]
        calls += [best(), fewest(), least()]
        down = [6, 5, 4, 3, 2, 1, 0]
        self.assertEqual(told(*calls)[-3:], [[13, *down], [0, 13, *down], [0, 13, *down]])

    def test_due_in_falling_order(self):
        calls = [begin(7)] + [job(flavour, 10, 70 - 10 * flavour) for flavour in range(7)]
        calls += [best(), fewest(), least()]
        down = [6, 5, 4, 3, 2, 1, 0]
        self.assertEqual(told(*calls)[-3:], [[70, 0, 1, 2, 3, 4, 5, 6], [0, 70, *down], [0, 70, *down]])

    def test_one_by_one_run_as_best_tells(self):
        calls = [begin(7)]
        calls += [change(f, g, (f * 5 + g * 3) % 11) for f in range(7) for g in range(7) if f != g]
        calls += [job(flavour, 10, 20 * flavour) for flavour in range(7)]
        end = last(*calls, best())[0]
        while len(last(*calls, best())) > 1:
            order = last(*calls, best())
            self.assertEqual(order[0], end)
            calls.append(run(order[1]))
        self.assertEqual(last(*calls)[0], end)

    def test_what_else_is_told(self):
        calls = [begin(7)] + [job(flavour, 10, 11 - flavour) for flavour in range(7)]
        calls += [hopeless(), open_jobs(), would(0, 1, 1), soon(6), drop(6), would(0, 1, 1), state()]
        self.assertEqual(told(*calls)[8:], [[5, 2, 3, 4, 5, 6], [7, 0, 1, 2, 3, 4, 5, 6], [-28], [10, 0], [6], [1, 5],
                                            [0, 7, 7, 6, 0]])


class RingOfTwo(unittest.TestCase):

    def test_there_and_back(self):
        self.assertEqual(last(begin(2), change(0, 1, 30), change(1, 0, 5), ring()), [35, 0, 1])

    def test_whatever_is_on_the_line(self):
        calls = [begin(2), change(0, 1, 30), change(1, 0, 5), job(1, 5, 5), run(0), ring()]
        self.assertEqual(last(*calls), [35, 0, 1])


if __name__ == "__main__":
    unittest.main()

"""Each call at ordinary inputs, with the whole list that is given back."""

import unittest

from flavourruns.line import answers


class Ordinary(unittest.TestCase):

    def test_begin(self):
        self.assertEqual(answers([0, 3]), [1, 0])

    def test_change_answers_how_many_they_were(self):
        calls = [0, 3, 1, 0, 1, 20, 1, 0, 1, 35, 1, 1, 0, 5, 1, 0, 1, 0, 1, 0, 1, 7]
        self.assertEqual(answers(calls), [1, 0, 1, 0, 1, 20, 1, 0, 1, 35, 1, 0])

    def test_job_answers_its_number(self):
        calls = [0, 2, 2, 0, 10, 50, 2, 1, 20, 60, 2, 1, 20, 60]
        self.assertEqual(answers(calls), [1, 0, 1, 0, 1, 1, 1, 2])

    def test_drop_answers_how_many_are_open(self):
        calls = [0, 2, 2, 0, 10, 50, 2, 1, 20, 60, 2, 0, 5, 9, 3, 1, 3, 0, 3, 2]
        self.assertEqual(answers(calls), [1, 0, 1, 0, 1, 1, 1, 2, 1, 2, 1, 1, 1, 0])

    def test_numbers_go_on_behind_a_dropped_and_a_run_job(self):
        calls = [0, 1, 2, 0, 10, 50, 3, 0, 2, 0, 5, 50, 4, 1, 2, 0, 1, 1]
        self.assertEqual(answers(calls), [1, 0, 1, 0, 1, 0, 1, 1, 3, 5, 0, 0, 1, 2])

    def test_run_tells_end_change_and_lateness(self):
        calls = [0, 2, 1, 0, 1, 20, 1, 1, 0, 7, 2, 0, 10, 50, 2, 1, 30, 55, 2, 0, 4, 100]
        calls += [4, 0, 4, 1, 4, 2]
        expected = [1, 0, 1, 0, 1, 0, 1, 0, 1, 1, 1, 2]
        expected += [3, 10, 0, 0, 3, 60, 20, 5, 3, 71, 7, 0]
        self.assertEqual(answers(calls), expected)

    def test_wait_tells_the_minute(self):
        calls = [0, 1, 5, 15, 5, 20, 2, 0, 10, 40, 4, 0, 5, 5]
        self.assertEqual(answers(calls), [1, 0, 1, 15, 1, 35, 1, 0, 3, 45, 0, 5, 1, 50])

    def test_best(self):
        # 0 then 1 changes for 30, 1 then 0 for 5.
        calls = [0, 2, 1, 0, 1, 30, 1, 1, 0, 5, 2, 0, 10, 10, 2, 1, 20, 100, 6]
        self.assertEqual(answers(calls), [1, 0, 1, 0, 1, 0, 1, 0, 1, 1, 3, 35, 1, 0])

    def test_fewest(self):
        # Job 0 is late behind job 1, so the order that ends later has fewer late.
        calls = [0, 2, 1, 0, 1, 30, 1, 1, 0, 5, 2, 0, 10, 10, 2, 1, 20, 100, 7]
        self.assertEqual(answers(calls), [1, 0, 1, 0, 1, 0, 1, 0, 1, 1, 4, 0, 60, 0, 1])

    def test_fewest_and_least_differ(self):
        # 0 first: job 1 alone is late, by 105. 1 first: both are late, by 5 and 10.
        calls = [0, 1, 2, 0, 100, 100, 2, 0, 10, 5, 7, 8]
        self.assertEqual(answers(calls), [1, 0, 1, 0, 1, 1, 4, 1, 110, 0, 1, 4, 15, 110, 1, 0])

    def test_least(self):
        calls = [0, 2, 1, 0, 1, 30, 1, 1, 0, 5, 2, 0, 10, 10, 2, 1, 20, 40, 8]
        self.assertEqual(answers(calls), [1, 0, 1, 0, 1, 0, 1, 0, 1, 1, 4, 20, 60, 0, 1])

    def test_times(self):
        calls = [0, 2, 1, 0, 1, 30, 1, 1, 0, 5, 2, 0, 10, 10, 2, 1, 20, 40, 2, 0, 3, 500]
        calls += [9, 3, 2, 0, 1, 9, 2, 1, 2]
        expected = [1, 0, 1, 0, 1, 0, 1, 0, 1, 1, 1, 2, 4, 2, 3, 13, 63, 3, 0, 20, 28]
        self.assertEqual(answers(calls), expected)

    def test_would(self):
        # With it all ends in minute 42, without in minute 35; job 0 or it is late, whichever goes first.
        calls = [0, 2, 1, 0, 1, 30, 1, 1, 0, 5, 2, 0, 10, 10, 2, 1, 20, 100, 10, 1, 7, 20]
        self.assertEqual(answers(calls), [1, 0, 1, 0, 1, 0, 1, 0, 1, 1, 2, 7, 1])

    def test_ring(self):
        # 0 1 2 takes 60, 0 2 1 takes 18.
        calls = [0, 3, 1, 0, 1, 10, 1, 1, 2, 20, 1, 2, 0, 30, 1, 0, 2, 5, 1, 2, 1, 6, 1, 1, 0, 7, 11]
        self.assertEqual(answers(calls), [1, 0, 1, 0, 1, 0, 1, 0, 1, 0, 1, 0, 1, 0, 4, 18, 0, 2, 1])

    # Job 0 is run; of the others, next, job 1 would end in minute 20, job 2 in minute 10, job 3 in minute 16.
    RUN = [0, 2, 1, 0, 1, 10, 1, 1, 0, 4, 2, 0, 5, 9, 2, 1, 5, 19, 2, 0, 5, 10, 2, 1, 1, 0, 4, 0]
    RUN_TOLD = [1, 0, 1, 0, 1, 0, 1, 0, 1, 1, 1, 2, 1, 3, 3, 5, 0, 0]

    def test_hopeless(self):
        self.assertEqual(answers(self.RUN + [12]), self.RUN_TOLD + [3, 2, 1, 3])

    def test_soon(self):
        self.assertEqual(answers(self.RUN + [13, 1, 13, 2, 13, 3]), self.RUN_TOLD + [2, 20, 10, 2, 10, 0, 2, 16, 10])

    def test_turn(self):
        self.assertEqual(answers(self.RUN + [14, 0, 1, 14, 1, 0, 14, 1, 1]), self.RUN_TOLD + [1, 10, 1, 4, 1, 0])

    def test_open(self):
        self.assertEqual(answers(self.RUN + [15]), self.RUN_TOLD + [4, 3, 1, 2, 3])

    def test_look(self):
        self.assertEqual(answers(self.RUN + [16, 1, 16, 0]), self.RUN_TOLD + [3, 1, 5, 19, 3, 0, 5, 9])

    def test_done(self):
        calls = self.RUN + [4, 3, 17]
        self.assertEqual(answers(calls), self.RUN_TOLD + [3, 16, 10, 16, 7, 2, 0, 5, 0, 3, 16, 16])

    def test_sums(self):
        calls = self.RUN + [4, 3, 5, 7, 4, 1, 18]
        self.assertEqual(answers(calls), self.RUN_TOLD + [3, 16, 10, 16, 1, 23, 3, 28, 0, 9, 6, 0, 10, 11, 7, 2, 25])

    def test_state(self):
        calls = self.RUN + [19, 4, 1, 19]
        self.assertEqual(answers(calls), self.RUN_TOLD + [5, 5, 2, 4, 3, 1, 3, 20, 10, 1, 5, 20, 2, 4, 2, 2])


class Mixed(unittest.TestCase):

    def test_all_twenty_in_one_list(self):
        steps = [
            ([0, 2], [0]),
            ([1, 0, 1, 30], [0]),
            ([1, 1, 0, 5], [0]),
            ([2, 0, 10, 10], [0]),
            ([2, 1, 20, 100], [1]),
            ([2, 0, 4, 200], [2]),
            ([6], [39, 1, 0, 2]),
            ([7], [0, 64, 0, 2, 1]),
            ([8], [0, 64, 0, 2, 1]),
            ([9, 2, 1, 0], [1, 20, 35]),
            ([10, 1, 6, 30], [6, 1]),
            ([11], [35, 0, 1]),
            ([12], [0]),
            ([13, 1], [20, 0]),
            ([14, 0, 1], [30]),
            ([3, 2], [2]),
            ([15], [2, 0, 1]),
            ([4, 1], [20, 0, 0]),
            ([12], [1, 0]),
            ([5, 3], [23]),
            ([16, 2], [0, 4, 200]),
            ([4, 0], [38, 5, 28]),
            ([17], [2, 1, 20, 0, 0, 38, 28]),
            ([18], [0, 5, 30, 3, 1, 28]),
            ([19], [38, 2, 3, 0, 1]),
        ]
        self.assertEqual({call[0] for call, answer in steps}, set(range(20)))
        calls = [number for call, answer in steps for number in call]
        expected = [number for call, answer in steps for number in [len(answer)] + answer]
        self.assertEqual(answers(calls), expected)


if __name__ == "__main__":
    unittest.main()

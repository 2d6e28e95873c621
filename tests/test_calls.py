"""Each call at ordinary inputs, with the whole list that is given back."""

import unittest

from flavourruns.line import answers


class Ordinary(unittest.TestCase):

    def test_begin(self):
        self.assertEqual(answers([0, 3]), [1, 0])

    def test_change_answers_how_many_they_were(self):
        calls = [0, 3, 1, 0, 1, 20, 1, 0, 1, 35, 1, 1, 0, 5, 1, 0, 1, 0, 1, 0, 1, 7]
        self.assertEqual(answers(calls), [1, 0, 1, 0, 1, 20, 1, 0, 1, 35, 1, 0])

    def test_job_answers_its_number(self):
        calls = [0, 2, 2, 0, 10, 50, 2, 1, 20, 60, 2, 1, 20, 60]
        self.assertEqual(answers(calls), [1, 0, 1, 0, 1, 1, 1, 2])

    def test_drop_answers_how_many_are_open(self):
        calls = [0, 2, 2, 0, 10, 50, 2, 1, 20, 60, 2, 0, 5, 9, 3, 1, 3, 0, 3, 2]
        self.assertEqual(answers(calls), [1, 0, 1, 0, 1, 1, 1, 2, 1, 2, 1, 1, 1, 0])

    def test_numbers_go_on_behind_a_dropped_and_a_run_job(self):
        calls = [0, 1, 2, 0, 10, 50, 3, 0, 2, 0, 5, 50, 4, 1, 2, 0, 1, 1]
        self.assertEqual(answers(calls), [1, 0, 1, 0, 1, 0, 1, 1, 3, 5, 0, 0, 1, 2])

    def test_run_tells_end_change_and_lateness(self):
        calls = [0, 2, 1, 0, 1, 20, 1, 1, 0, 7, 2, 0, 10, 50, 2, 1, 30, 55, 2, 0, 4, 100]
        calls += [4, 0, 4, 1, 4, 2]
        expected = [1, 0, 1, 0, 1, 0, 1, 0, 1, 1, 1, 2]
        expected += [3, 10, 0, 0, 3, 60, 20, 5, 3, 71, 7, 0]
        self.assertEqual(answers(calls), expected)

    def test_wait_tells_the_minute(self):
        calls = [0, 1, 5, 15, 5, 20, 2, 0, 10, 40, 4, 0, 5, 5]
        self.assertEqual(answers(calls), [1, 0, 1, 15, 1, 35, 1, 0, 3, 45, 0, 5, 1, 50])

    def test_best(self):
        # 0 then 1 changes for 30, 1 then 0 for 5.
        calls = [0, 2, 1, 0, 1, 30, 1, 1, 0, 5, 2, 0, 10, 10, 2, 1, 20, 100, 6]
        self.assertEqual(answers(calls), [1, 0, 1, 0, 1, 0, 1, 0, 1, 1, 3, 35, 1, 0])

    def test_fewest(self):
        # Job 0 is late behind job 1, so the order that ends later has fewer late.
        calls = [0, 2, 1, 0, 1, 30, 1, 1, 0, 5, 2, 0, 10, 10, 2, 1, 20, 100, 7]
        self.assertEqual(answers(calls), [1, 0, 1, 0, 1, 0, 1, 0, 1, 1, 4, 0, 60, 0, 1])

    def test_fewest_and_least_differ(self):
        # 0 first: job 1 alone is late, by 105. 1 first: both are late, by 5 and 10.
        calls = [0, 1, 2, 0, 100, 100, 2, 0, 10, 5, 7, 8]
        self.assertEqual(answers(calls), [1, 0, 1, 0, 1, 1, 4, 1, 110, 0, 1, 4, 15, 110, 1, 0])

    def test_least(self):
        calls = [0, 2, 1, 0, 1, 30, 1, 1, 0, 5, 2, 0, 10, 10, 2, 1, 20, 40, 8]
        self.assertEqual(answers(calls), [1, 0, 1, 0, 1, 0, 1, 0, 1, 1, 4, 20, 60, 0, 1])

    def test_times(self):
        calls = [0, 2, 1, 0, 1, 30, 1, 1, 0, 5, 2, 0, 10, 10, 2, 1, 20, 40, 2, 0, 3, 500]
        calls += [9, 3, 2, 0, 1, 9, 2, 1, 2]
        expected = [1, 0, 1, 0, 1, 0, 1, 0, 1, 1, 1, 2, 4, 2, 3, 13, 63, 3, 0, 20, 28]
        self.assertEqual(answers(calls), expected)


if __name__ == "__main__":
    unittest.main()

import unittest

from deadlinerun.jobs import asked, sound

from samples import GREAT, NO_JOBS, SIXTY, Touchy, small_lists


class Sound(unittest.TestCase):
    def test_jobs(self):
        for job in [(0, 1, 1), (0, 1, 2), (3, 4, 9), (5, 100, 6), (GREAT - 1, 1, GREAT), (0, GREAT, GREAT)]:
            self.assertIs(sound(job), True, job)

    def test_no_jobs(self):
        for thing in NO_JOBS:
            self.assertIs(sound(thing), False, thing)

    def test_things_that_fail_when_touched_are_no_jobs(self):
        for thing in (Touchy(), (Touchy(), 1, 2), (0, Touchy(), 2), (0, 1, Touchy()), Touchy):
            self.assertIs(sound(thing), False)

    def test_a_job_may_be_too_long_for_its_stretch(self):
        self.assertIs(sound((0, 5, 1)), True)

    def test_numbers_somewhat_beyond_sixty_figures_are_taken(self):
        self.assertIs(sound((10 ** 60, 10 ** 61, 10 ** 62)), True)


class Asked(unittest.TestCase):
    def test_no_jobs(self):
        self.assertEqual(asked([], 0, 10), 0)

    def test_lengths_together(self):
        self.assertEqual(asked([(0, 2, 5), (1, 3, 6), (2, 4, 7)], 0, 7), 9)

    def test_come_at_begin_and_due_at_end_count(self):
        self.assertEqual(asked([(2, 3, 7)], 2, 7), 3)

    def test_come_ahead_of_begin_does_not_count(self):
        self.assertEqual(asked([(1, 3, 7), (2, 5, 7)], 2, 7), 5)

    def test_due_behind_end_does_not_count(self):
        self.assertEqual(asked([(2, 3, 8), (2, 5, 7)], 2, 7), 5)

    def test_more_than_the_stretch_has(self):
        self.assertEqual(asked([(0, 9, 2), (0, 9, 2)], 0, 2), 18)

    def test_equal_jobs_count_each(self):
        self.assertEqual(asked([(0, 1, 2)] * 60, 0, 2), 60)

    def test_begin_below_nought(self):
        self.assertEqual(asked([(0, 2, 5)], -10, 5), 2)
        self.assertEqual(asked([(0, 2, 5)], -GREAT, GREAT), 2)

    def test_both_below_nought(self):
        self.assertEqual(asked([(0, 2, 5)], -10, -5), 0)

    def test_begin_not_less_than_end(self):
        jobs = [(0, 2, 5), (3, 4, 9), (5, 1, 6)]
        for begin, end in ((5, 5), (0, 0), (9, 0), (5, 3), (0, -1), (-5, -5), (-5, -9), (GREAT, -GREAT)):
            self.assertEqual(asked(jobs, begin, end), 0)

    def test_great_numbers(self):
        jobs = [(0, GREAT, GREAT)] * 60
        self.assertEqual(asked(jobs, 0, GREAT), 60 * GREAT)
        self.assertEqual(asked(jobs, 0, GREAT - 1), 0)
        self.assertEqual(asked(jobs, 1, GREAT), 0)

    def test_the_words_of_point_eight(self):
        for jobs in small_lists():
            for begin, end in ((0, 6), (1, 4), (2, 5), (1, 15)):
                told = 0
                for come, length, due in jobs:
                    if begin <= come and due <= end:
                        told += length
                self.assertEqual(asked(jobs, begin, end), told)

    def test_handed_in_stays(self):
        jobs = list(SIXTY)
        self.assertEqual(asked(jobs, 3, 9), 6)
        self.assertEqual(jobs, SIXTY)


if __name__ == "__main__":
    unittest.main()

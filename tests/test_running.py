import unittest

from deadlinerun.running import chosen, run

from samples import GREAT, SIXTY, small_lists, slow_run


class Chosen(unittest.TestCase):
    def test_no_jobs(self):
        self.assertIsNone(chosen([], [], 0))

    def test_least_due(self):
        jobs = [(0, 1, 9), (0, 1, 5), (0, 1, 7)]
        self.assertEqual(chosen(jobs, [1, 1, 1], 0), 1)
        self.assertEqual(chosen(jobs, [1, 0, 1], 0), 2)
        self.assertEqual(chosen(jobs, [1, 0, 0], 0), 0)

    def test_same_due_least_place(self):
        self.assertEqual(chosen([(0, 1, 9), (0, 2, 5), (1, 3, 5), (0, 2, 5)], [1, 2, 3, 2], 1), 1)
        self.assertEqual(chosen([(0, 1, 9), (0, 2, 5), (1, 3, 5), (0, 2, 5)], [1, 0, 3, 2], 1), 2)

    def test_same_due_least_place_though_it_came_later(self):
        self.assertEqual(chosen([(4, 1, 5), (0, 2, 5)], [1, 2], 4), 0)

    def test_equal_jobs(self):
        self.assertEqual(chosen([(0, 2, 5)] * 3, [2, 2, 2], 0), 0)
        self.assertEqual(chosen([(0, 2, 5)] * 3, [0, 1, 2], 2), 1)

    def test_only_jobs_that_have_come(self):
        jobs = [(3, 1, 4), (2, 1, 9)]
        self.assertIsNone(chosen(jobs, [1, 1], 0))
        self.assertIsNone(chosen(jobs, [1, 1], 1))
        self.assertEqual(chosen(jobs, [1, 1], 2), 1)
        self.assertEqual(chosen(jobs, [1, 1], 3), 0)

    def test_all_done(self):
        self.assertIsNone(chosen([(0, 1, 2), (0, 1, 3)], [0, 0], 5))

    def test_past_its_due(self):
        self.assertEqual(chosen([(0, 3, 2), (0, 1, 90)], [1, 1], 50), 0)

    def test_partly_done(self):
        self.assertEqual(chosen([(0, 9, 20), (0, 9, 10)], [8, 1], 8), 1)

    def test_great_numbers(self):
        jobs = [(0, GREAT, GREAT), (GREAT - 1, 1, GREAT), (0, 1, GREAT - 1)]
        self.assertEqual(chosen(jobs, [GREAT, 1, 1], GREAT), 2)
        self.assertEqual(chosen(jobs, [0, 1, 0], GREAT - 1), 1)
        self.assertIsNone(chosen(jobs, [0, 1, 0], GREAT - 2))

    def test_sixty_jobs(self):
        self.assertEqual(chosen(SIXTY, [0] * 59 + [1], 59), 59)
        self.assertIsNone(chosen(SIXTY, [0] * 59 + [1], 58))
        self.assertEqual(chosen([(0, 1, 100 - place) for place in range(60)], [1] * 60, 0), 59)

    def test_handed_in_stays(self):
        jobs = [(0, 4, 9), (0, 3, 5)]
        left = [4, 2]
        self.assertEqual(chosen(jobs, left, 1), 1)
        self.assertEqual(jobs, [(0, 4, 9), (0, 3, 5)])
        self.assertEqual(left, [4, 2])


class Run(unittest.TestCase):
    def test_no_jobs(self):
        self.assertEqual(run([]), [])

    def test_one_job(self):
        self.assertEqual(run([(0, 3, 5)]), [(0, 0, 3)])

    def test_waits_at_the_begin(self):
        self.assertEqual(run([(4, 3, 9)]), [(0, 4, 7)])

    def test_waits_in_between(self):
        self.assertEqual(run([(9, 1, 20), (1, 2, 9)]), [(1, 1, 3), (0, 9, 10)])

    def test_does_not_wait_where_a_job_is_there(self):
        self.assertEqual(run([(0, 5, 100), (1, 1, 2)]), [(0, 0, 1), (1, 1, 2), (0, 2, 6)])

    def test_nearest_due_first(self):
        self.assertEqual(run([(0, 1, 9), (0, 2, 5), (0, 3, 7)]), [(1, 0, 2), (2, 2, 5), (0, 5, 6)])

    def test_same_due_by_place(self):
        self.assertEqual(run([(0, 1, 9), (0, 2, 9), (0, 3, 9)]), [(0, 0, 1), (1, 1, 3), (2, 3, 6)])

    def test_comes_with_an_earlier_due(self):
        self.assertEqual(run([(0, 5, 20), (2, 1, 9)]), [(0, 0, 2), (1, 2, 3), (0, 3, 6)])

    def test_comes_with_the_same_due_at_a_greater_place(self):
        self.assertEqual(run([(0, 5, 20), (2, 1, 20)]), [(0, 0, 5), (1, 5, 6)])

    def test_comes_with_the_same_due_at_a_lesser_place(self):
        self.assertEqual(run([(2, 1, 20), (0, 5, 20)]), [(1, 0, 2), (0, 2, 3), (1, 3, 6)])

    def test_comes_with_a_later_due(self):
        self.assertEqual(run([(0, 5, 20), (2, 1, 21)]), [(0, 0, 5), (1, 5, 6)])

    def test_comes_just_as_another_ends(self):
        self.assertEqual(run([(0, 2, 5), (2, 2, 9)]), [(0, 0, 2), (1, 2, 4)])
        self.assertEqual(run([(2, 2, 4), (0, 2, 9)]), [(1, 0, 2), (0, 2, 4)])

    def test_comes_just_as_another_ends_while_a_third_is_left(self):
        self.assertEqual(run([(0, 9, 30), (1, 2, 5), (3, 2, 9)]), [(0, 0, 1), (1, 1, 3), (2, 3, 5), (0, 5, 13)])

    def test_broken_off_more_than_once(self):
        self.assertEqual(
            run([(0, 4, 50), (1, 3, 20), (2, 1, 9), (6, 1, 7)]),
            [(0, 0, 1), (1, 1, 2), (2, 2, 3), (1, 3, 5), (0, 5, 6), (3, 6, 7), (0, 7, 9)],
        )

    def test_equal_jobs(self):
        self.assertEqual(run([(1, 2, 5)] * 3), [(0, 1, 3), (1, 3, 5), (2, 5, 7)])

    def test_past_its_due_it_goes_on(self):
        self.assertEqual(run([(0, 5, 2), (1, 2, 9)]), [(0, 0, 5), (1, 5, 7)])

    def test_begun_past_its_due(self):
        self.assertEqual(run([(0, 5, 3), (1, 2, 4), (2, 1, 90)]), [(0, 0, 5), (1, 5, 7), (2, 7, 8)])

    def test_many_that_break_nothing_off_leave_one_piece(self):
        jobs = [(0, 100, 200)] + [(time, 1, 300 + time) for time in range(1, 60)]
        self.assertEqual(run(jobs)[0], (0, 0, 100))
        self.assertEqual(len(run(jobs)), 60)

    def test_sixty_jobs(self):
        self.assertEqual(run(SIXTY), [(place, place, place + 1) for place in range(60)])

    def test_sixty_jobs_each_broken_off_by_the_next(self):
        jobs = [(place, 2, 1000 - place) for place in range(60)]
        begun = [(place, place, place + 1) for place in range(59)]
        ended = [(place, 119 - place, 120 - place) for place in range(58, -1, -1)]
        self.assertEqual(run(jobs), begun + [(59, 59, 61)] + ended)

    def test_great_numbers(self):
        half = GREAT // 2
        self.assertEqual(run([(GREAT - 1, GREAT, GREAT)]), [(0, GREAT - 1, 2 * GREAT - 1)])
        self.assertEqual(
            run([(0, GREAT, GREAT), (half, half, GREAT - 1)]),
            [(0, 0, half), (1, half, 2 * half), (0, 2 * half, GREAT + half)],
        )

    def test_sixty_jobs_of_great_numbers(self):
        step = 10 ** 57
        jobs = [(place * step, 2 * step, GREAT - place) for place in range(60)]
        begun = [(place, place * step, (place + 1) * step) for place in range(59)]
        ended = [(place, (119 - place) * step, (120 - place) * step) for place in range(58, -1, -1)]
        self.assertEqual(run(jobs), begun + [(59, 59 * step, 61 * step)] + ended)

    def test_unit_by_unit(self):
        for jobs in small_lists():
            self.assertEqual(run(jobs), slow_run(jobs), jobs)

    def test_pieces_are_tuples_of_whole_numbers(self):
        told = run([(0, 5, 20), (2, 1, 9)])
        self.assertIs(type(told), list)
        for piece in told:
            self.assertIs(type(piece), tuple)
            self.assertEqual([type(number) for number in piece], [int, int, int])

    def test_pieces_of_one_job_never_touch(self):
        for jobs in small_lists():
            told = run(jobs)
            for ahead, behind in zip(told, told[1:]):
                self.assertFalse(ahead[0] == behind[0] and ahead[2] == behind[1])

    def test_handed_in_stays(self):
        jobs = [(0, 5, 20), (2, 1, 9)]
        run(jobs)
        self.assertEqual(jobs, [(0, 5, 20), (2, 1, 9)])

    def test_told_is_the_askers_own(self):
        jobs = [(0, 5, 20), (2, 1, 9)]
        first = run(jobs)
        second = run(jobs)
        first.clear()
        jobs.append((0, 1, 1))
        run(jobs)
        self.assertEqual(second, [(0, 0, 2), (1, 2, 3), (0, 3, 6)])
        self.assertEqual(run(jobs[:2]), second)
        empty = run([])
        empty.append((0, 0, 1))
        self.assertEqual(run([]), [])


if __name__ == "__main__":
    unittest.main()

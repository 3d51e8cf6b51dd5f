import unittest

from deadlinerun.answering import answer, needed
from deadlinerun.jobs import asked
from deadlinerun.looking import meets
from deadlinerun.running import run

from samples import GREAT, SIXTY, is_met, late_lists, small_lists, slow_ends, slow_run

STEP = 10 ** 58


def slow_answer(jobs):
    """The answer by the words of point 9, one unit of time after the other."""
    told = slow_ends(jobs)
    rows = [(job[2], place) for place, job in enumerate(jobs) if told[place] > job[2]]
    if not rows:
        return ("plan", slow_run(jobs))
    end, place = min(rows)
    worked = {time: at for at, start, stop in slow_run(jobs) for time in range(start, stop)}
    begin = end
    while begin - 1 in worked and jobs[worked[begin - 1]][2] <= end:
        begin -= 1
    return ("late", place, begin, end)


class Plan(unittest.TestCase):
    def test_no_jobs(self):
        self.assertEqual(answer([]), ("plan", []))

    def test_the_pieces_of_the_run(self):
        self.assertEqual(answer([(0, 3, 5)]), ("plan", [(0, 0, 3)]))
        self.assertEqual(answer([(0, 5, 20), (2, 1, 9)]), ("plan", [(0, 0, 2), (1, 2, 3), (0, 3, 6)]))
        self.assertEqual(answer([(9, 1, 20), (1, 2, 9)]), ("plan", [(1, 1, 3), (0, 9, 10)]))

    def test_done_just_at_its_due(self):
        self.assertEqual(answer([(0, 3, 3)]), ("plan", [(0, 0, 3)]))
        self.assertEqual(answer([(2, 1, 5), (0, 2, 3), (2, 2, 5)]), ("plan", [(1, 0, 2), (0, 2, 3), (2, 3, 5)]))

    def test_equal_jobs(self):
        self.assertEqual(answer([(1, 2, 7)] * 3), ("plan", [(0, 1, 3), (1, 3, 5), (2, 5, 7)]))

    def test_sixty_jobs(self):
        self.assertEqual(answer(SIXTY), ("plan", [(place, place, place + 1) for place in range(60)]))
        self.assertEqual(answer([(0, 1, 60)] * 60), ("plan", [(place, place, place + 1) for place in range(60)]))

    def test_great_numbers(self):
        self.assertEqual(answer([(0, GREAT, GREAT)]), ("plan", [(0, 0, GREAT)]))
        jobs = [(0, STEP, GREAT), (GREAT - 1, 1, GREAT)]
        self.assertEqual(answer(jobs), ("plan", [(0, 0, STEP), (1, GREAT - 1, GREAT)]))


class LateJob(unittest.TestCase):
    def test_done_one_behind_its_due(self):
        self.assertEqual(answer([(0, 4, 3)]), ("late", 0, 0, 3))
        self.assertEqual(answer([(0, 3, 3), (0, 3, 5)]), ("late", 1, 0, 5))

    def test_least_due_of_the_late_jobs(self):
        self.assertEqual(answer([(0, 9, 7), (0, 9, 5), (0, 9, 6)]), ("late", 1, 0, 5))
        self.assertEqual(answer([(0, 1, 2), (0, 9, 7), (0, 1, 4)]), ("late", 1, 0, 7))

    def test_least_due_and_not_the_first_that_is_done(self):
        self.assertEqual(answer([(0, 7, 6), (4, 2, 5)]), ("late", 1, 4, 5))
        self.assertEqual(answer([(0, 9, 8), (10, 9, 11), (0, 1, 3), (5, 9, 12)]), ("late", 0, 0, 8))

    def test_same_due_least_place(self):
        self.assertEqual(answer([(0, 9, 90), (0, 9, 5), (0, 9, 5)]), ("late", 1, 0, 5))
        self.assertEqual(answer([(0, 2, 5), (3, 4, 5), (4, 1, 5)]), ("late", 1, 3, 5))

    def test_equal_jobs(self):
        self.assertEqual(answer([(1, 2, 6)] * 3), ("late", 2, 1, 6))

    def test_stretch_begins_at_nought(self):
        self.assertEqual(answer([(0, 2, 3), (1, 3, 4)]), ("late", 1, 0, 4))
        self.assertEqual(answer([(0, 3, 9), (2, 8, 9)]), ("late", 1, 0, 9))

    def test_stretch_begins_ahead_of_the_late_jobs_come(self):
        self.assertEqual(answer([(5, 3, 8), (6, 3, 9), (7, 3, 10)]), ("late", 1, 5, 9))
        self.assertEqual(answer([(5, 3, 8), (6, 2, 10), (7, 3, 11)]), ("late", 2, 5, 11))

    def test_run_waits_just_ahead_of_the_stretch(self):
        self.assertEqual(answer([(7, 2, 9), (7, 2, 10), (20, 1, 21)]), ("late", 1, 7, 10))
        self.assertEqual(answer([(0, 2, 3), (3, 3, 5)]), ("late", 1, 3, 5))
        self.assertEqual(answer([(0, 2, 2), (2, 1, 3), (4, 3, 6)]), ("late", 2, 4, 6))

    def test_run_does_not_wait_just_ahead_of_the_come(self):
        self.assertEqual(answer([(0, 3, 3), (3, 3, 5)]), ("late", 1, 0, 5))

    def test_due_later_worked_at_just_ahead_of_the_stretch(self):
        self.assertEqual(answer([(0, 9, 50), (3, 4, 6)]), ("late", 1, 3, 6))
        self.assertEqual(answer([(0, 3, 50), (3, 4, 6)]), ("late", 1, 3, 6))
        self.assertEqual(answer([(0, 1, 1), (1, 1, 7), (2, 5, 6)]), ("late", 2, 2, 6))
        self.assertEqual(answer([(0, 2, 2), (2, 9, 50), (4, 2, 6), (5, 2, 7)]), ("late", 3, 4, 7))

    def test_due_just_at_the_end_belongs_to_the_stretch(self):
        self.assertEqual(answer([(3, 4, 6), (0, 9, 6)]), ("late", 0, 0, 6))
        self.assertEqual(answer([(0, 4, 6), (3, 4, 6)]), ("late", 1, 0, 6))
        self.assertEqual(answer([(0, 4, 7), (3, 4, 6)]), ("late", 1, 3, 6))

    def test_begun_behind_its_due(self):
        self.assertEqual(answer([(0, 9, 9), (0, 2, 9)]), ("late", 1, 0, 9))
        self.assertEqual(answer([(0, 7, 5), (1, 1, 6)]), ("late", 0, 0, 5))

    def test_sixty_jobs(self):
        self.assertEqual(answer([(0, 1, 59)] * 60), ("late", 59, 0, 59))
        self.assertEqual(answer([(place, 2, place + 2) for place in range(60)]), ("late", 1, 0, 3))
        self.assertEqual(answer(SIXTY[:59] + [(58, 2, 59)]), ("late", 59, 0, 59))

    def test_great_numbers(self):
        self.assertEqual(answer([(1, GREAT, GREAT)]), ("late", 0, 1, GREAT))
        self.assertEqual(answer([(0, STEP, GREAT), (STEP + 1, GREAT, GREAT)]), ("late", 1, STEP + 1, GREAT))
        self.assertEqual(answer([(0, GREAT, GREAT), (STEP, STEP, 2 * STEP - 1)]), ("late", 1, STEP, 2 * STEP - 1))
        self.assertEqual(answer([(0, GREAT, GREAT)] * 60), ("late", 1, 0, GREAT))

    def test_the_stretch_asks_for_more_than_it_has(self):
        for jobs in late_lists():
            kind, place, begin, end = answer(jobs)
            self.assertEqual(kind, "late")
            self.assertGreater(asked(jobs, begin, end), end - begin, jobs)
            self.assertGreaterEqual(jobs[place][0], begin)
            self.assertEqual(jobs[place][2], end)


class Answer(unittest.TestCase):
    def test_unit_by_unit(self):
        for jobs in small_lists():
            self.assertEqual(answer(jobs), slow_answer(jobs), jobs)

    def test_a_plan_meets_the_jobs(self):
        for jobs in small_lists():
            told = answer(jobs)
            if told[0] == "plan":
                self.assertIs(meets(jobs, told[1]), True, jobs)

    def test_kinds_of_values(self):
        told = answer([(0, 5, 20), (2, 1, 9)])
        self.assertIs(type(told), tuple)
        self.assertIs(type(told[1]), list)
        self.assertEqual([type(piece) for piece in told[1]], [tuple] * 3)
        told = answer([(0, 4, 3)])
        self.assertIs(type(told), tuple)
        self.assertEqual([type(part) for part in told], [str, int, int, int])

    def test_handed_in_stays(self):
        for jobs in ([(0, 5, 20), (2, 1, 9)], [(0, 9, 7), (0, 9, 5)]):
            same = list(jobs)
            answer(jobs)
            self.assertEqual(jobs, same)

    def test_told_is_the_askers_own(self):
        jobs = [(0, 5, 20), (2, 1, 9)]
        first = answer(jobs)
        second = answer(jobs)
        first[1].clear()
        jobs.append((0, 9, 1))
        self.assertEqual(answer(jobs), ("late", 2, 0, 1))
        self.assertEqual(second, ("plan", [(0, 0, 2), (1, 2, 3), (0, 3, 6)]))
        self.assertEqual(answer(jobs[:2]), second)
        empty = answer([])
        empty[1].append((0, 0, 1))
        self.assertEqual(answer([]), ("plan", []))
        self.assertEqual(run([]), [])


class Needed(unittest.TestCase):
    def test_no_jobs(self):
        self.assertEqual(needed([]), 0)

    def test_none_is_late(self):
        self.assertEqual(needed([(0, 1, 100)]), 0)
        self.assertEqual(needed([(0, 3, 3)]), 0)
        self.assertEqual(needed([(0, 5, 20), (2, 1, 9)]), 0)

    def test_one_behind_its_due(self):
        self.assertEqual(needed([(0, 4, 3)]), 1)
        self.assertEqual(needed([(0, 3, 3), (0, 3, 5)]), 1)

    def test_the_greatest_of_several(self):
        self.assertEqual(needed([(0, 9, 7), (0, 9, 5), (0, 9, 6)]), 20)
        self.assertEqual(needed([(0, 9, 3), (20, 2, 21), (0, 1, 90)]), 6)
        self.assertEqual(needed([(0, 7, 6), (4, 2, 5)]), 3)
        self.assertEqual(needed([(0, 4, 2), (8, 1, 40), (20, 6, 21)]), 5)

    def test_equal_jobs(self):
        self.assertEqual(needed([(0, 2, 7)] * 60), 113)

    def test_sixty_jobs(self):
        self.assertEqual(needed(SIXTY), 0)
        self.assertEqual(needed([(place, 2, place + 2) for place in range(60)]), 59)

    def test_great_numbers(self):
        self.assertEqual(needed([(0, GREAT, GREAT)]), 0)
        self.assertEqual(needed([(1, GREAT, GREAT)]), 1)
        self.assertEqual(needed([(GREAT - 1, GREAT, GREAT)] * 60), 60 * GREAT - 1)

    def test_the_least_number_that_will_do(self):
        for jobs in small_lists():
            least = 0
            while True:
                later = [(come, length, due + least) for come, length, due in jobs]
                if is_met(later):
                    break
                least += 1
            self.assertEqual(needed(jobs), least, jobs)

    def test_handed_in_stays(self):
        jobs = [(0, 9, 7), (0, 9, 5)]
        self.assertIs(type(needed(jobs)), int)
        self.assertEqual(jobs, [(0, 9, 7), (0, 9, 5)])


if __name__ == "__main__":
    unittest.main()

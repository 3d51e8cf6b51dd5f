import unittest

from deadlinerun.errors import BadJob, TooMany
from deadlinerun.rooms import room

from samples import GREAT, SIXTY, is_met, late_lists, met_lists

STEP = 10 ** 58

# Each way in which come, 1 and due make no job.
NO_STRETCHES = [
    (-1, 5),
    (-GREAT, GREAT),
    (0, 0),
    (5, 5),
    (5, 4),
    (GREAT, GREAT),
    (GREAT, 0),
    (0, -1),
    (-2, -1),
]


def slow_room(jobs, come, due):
    """The room by the words of point 11: one length after the other is tried."""
    length = due - come
    while length > 0 and not is_met(jobs + [(come, length, due)]):
        length -= 1
    return length


class Room(unittest.TestCase):
    def test_no_jobs_all_of_due_less_come(self):
        self.assertEqual(room([], 0, 1), 1)
        self.assertEqual(room([], 0, 9), 9)
        self.assertEqual(room([], 4, 9), 5)

    def test_all_of_due_less_come_beside_jobs(self):
        self.assertEqual(room([(0, 3, 3), (9, 2, 11)], 3, 9), 6)
        self.assertEqual(room([(0, 3, 90)], 2, 9), 7)

    def test_what_the_jobs_leave(self):
        self.assertEqual(room([(0, 3, 9)], 0, 9), 6)
        self.assertEqual(room([(2, 3, 9)], 0, 9), 6)
        self.assertEqual(room([(0, 3, 8), (1, 2, 9)], 0, 9), 4)

    def test_of_jobs_that_are_due_later(self):
        self.assertEqual(room([(0, 5, 10)], 0, 8), 5)
        self.assertEqual(room([(0, 9, 10)], 3, 6), 1)
        self.assertEqual(room([(0, 2, 10), (0, 9, 12)], 3, 6), 1)

    def test_of_jobs_that_come_ahead(self):
        self.assertEqual(room([(0, 4, 6)], 2, 6), 2)
        self.assertEqual(room([(0, 2, 6), (1, 3, 6)], 5, 9), 4)
        self.assertEqual(room([(0, 5, 6), (1, 1, 8)], 5, 7), 2)
        self.assertEqual(room([(0, 5, 6), (1, 2, 8)], 5, 7), 1)

    def test_nought(self):
        self.assertEqual(room([(0, 3, 3)], 0, 3), 0)
        self.assertEqual(room([(0, 3, 3)], 1, 2), 0)
        self.assertEqual(room([(0, 10, 10)], 3, 6), 0)
        self.assertEqual(room([(0, 3, 5), (2, 4, 7)], 3, 6), 0)

    def test_just_one(self):
        self.assertEqual(room([(0, 2, 3)], 0, 3), 1)
        self.assertEqual(room([(0, 9, 10)], 3, 4), 1)
        self.assertEqual(room([], 7, 8), 1)

    def test_none_where_no_way_meets_the_jobs(self):
        self.assertIsNone(room([(0, 4, 3)], 0, 9))
        self.assertIsNone(room([(0, 4, 3)], 50, 90))
        self.assertIsNone(room([(0, 2, 3), (0, 2, 3)], 0, 1))
        self.assertIsNone(room([(5, 2, 9), (20, 3, 22)], 0, 2))

    def test_equal_jobs(self):
        self.assertEqual(room([(1, 2, 9)] * 3, 1, 9), 2)
        self.assertEqual(room([(1, 2, 9)] * 4, 1, 9), 0)
        self.assertIsNone(room([(1, 2, 9)] * 5, 1, 9))

    def test_sixty_jobs(self):
        self.assertEqual(room(SIXTY, 0, 60), 0)
        self.assertEqual(room(SIXTY, 60, 70), 10)
        self.assertEqual(room(SIXTY, 30, 61), 1)
        self.assertEqual(room([(place, 1, place + 3) for place in range(60)], 0, 90), 30)
        self.assertEqual(room([(0, 1, 61)] * 60, 7, 9), 1)
        self.assertIsNone(room([(0, 1, 59)] * 60, 70, 90))

    def test_great_numbers(self):
        self.assertEqual(room([], 0, GREAT), GREAT)
        self.assertEqual(room([(0, STEP, GREAT)], 0, GREAT), GREAT - STEP)
        self.assertEqual(room([(0, GREAT - 1, GREAT)], STEP, 2 * STEP), 1)
        self.assertEqual(room([(0, GREAT, GREAT)], STEP, 2 * STEP), 0)
        self.assertIsNone(room([(1, GREAT, GREAT)], STEP, 2 * STEP))
        jobs = [(place * STEP, STEP, (place + 2) * STEP) for place in range(60)]
        self.assertEqual(room(jobs, 0, 60 * STEP), STEP)
        self.assertEqual(room(jobs, 0, 61 * STEP), STEP)
        self.assertEqual(room(jobs, 59 * STEP + 7, GREAT), GREAT - 60 * STEP)
        jobs = [(place * STEP, STEP, (place + 1) * STEP) for place in range(60)]
        self.assertEqual(room(jobs, 0, 60 * STEP), 0)
        self.assertEqual(room(jobs, 0, 60 * STEP + 3), 3)

    def test_one_length_after_the_other(self):
        for jobs in met_lists():
            for come, due in ((0, 1), (0, 8), (1, 4), (2, 5), (3, 12), (6, 9)):
                self.assertEqual(room(jobs, come, due), slow_room(jobs, come, due), (jobs, come, due))

    def test_none_for_each_list_with_a_late_job(self):
        for jobs in late_lists():
            self.assertIsNone(room(jobs, 40, 50), jobs)

    def test_a_whole_number(self):
        self.assertIs(type(room([], 0, 9)), int)
        self.assertIs(type(room([(0, 3, 3)], 0, 3)), int)

    def test_handed_in_stays(self):
        jobs = [(0, 5, 20), (2, 1, 9)]
        self.assertEqual(room(jobs, 0, 20), 14)
        self.assertEqual(room(jobs, 0, 20), 14)
        self.assertEqual(jobs, [(0, 5, 20), (2, 1, 9)])


class Refused(unittest.TestCase):
    def refused(self, kind, jobs, come, due):
        same = list(jobs)
        with self.assertRaises(kind):
            room(jobs, come, due)
        self.assertEqual(jobs, same)

    def test_come_and_due_that_make_no_job(self):
        for come, due in NO_STRETCHES:
            with self.subTest(come=come, due=due):
                self.refused(BadJob, [], come, due)
                self.refused(BadJob, [(0, 1, 9)], come, due)
                self.refused(BadJob, list(SIXTY), come, due)

    def test_also_where_no_way_meets_the_jobs(self):
        for come, due in NO_STRETCHES:
            with self.subTest(come=come, due=due):
                self.refused(BadJob, [(0, 4, 3)], come, due)

    def test_too_many_goes_ahead_of_it(self):
        for come, due in NO_STRETCHES:
            self.refused(TooMany, SIXTY + [(60, 1, 61)], come, due)
            self.refused(TooMany, [None] * 61, come, due)

    def test_a_thing_that_is_no_job_goes_ahead_of_a_late_one(self):
        self.refused(BadJob, [(0, 4, 3), None], 0, 9)


if __name__ == "__main__":
    unittest.main()

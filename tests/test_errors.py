import unittest

from deadlinerun.answering import answer, needed
from deadlinerun.errors import BadJob, NoRow, OutOfPlace, RunError, TooMany
from deadlinerun.jobs import LIMIT, asked
from deadlinerun.looking import ends, late, meets
from deadlinerun.notes import written
from deadlinerun.rooms import room
from deadlinerun.running import chosen, run

from samples import NO_JOBS, SIXTY, Touchy

# Each call to which a list of jobs is handed in.
CALLS = {
    "asked": lambda jobs: asked(jobs, 0, 9),
    "asked, empty stretch": lambda jobs: asked(jobs, 9, 0),
    "chosen": lambda jobs: chosen(jobs, [1] * len(jobs), 0),
    "chosen, all done": lambda jobs: chosen(jobs, [0] * len(jobs), 0),
    "run": run,
    "meets": lambda jobs: meets(jobs, [(0, 0, 1)]),
    "meets, no pieces": lambda jobs: meets(jobs, []),
    "meets, bad place": lambda jobs: meets(jobs, [(-1, 0, 1)]),
    "ends": ends,
    "late": late,
    "answer": answer,
    "needed": needed,
    "room": lambda jobs: room(jobs, 0, 9),
    "written": written,
}


class ErrorClasses(unittest.TestCase):
    def test_what_stands_below_what(self):
        self.assertEqual(RunError.__bases__, (ValueError,))
        for kind in (BadJob, TooMany, OutOfPlace, NoRow):
            self.assertEqual(kind.__bases__, (RunError,))

    def test_each_can_be_caught_apart(self):
        kinds = (BadJob, TooMany, OutOfPlace, NoRow)
        for kind in kinds:
            for other in kinds:
                self.assertEqual(issubclass(kind, other), kind is other)


class RefusedLists(unittest.TestCase):
    def test_limit(self):
        self.assertEqual(LIMIT, 60)

    def taken(self, jobs):
        same = list(jobs)
        for name, call in CALLS.items():
            with self.subTest(call=name):
                call(jobs)
                self.assertEqual(jobs, same)

    def refused(self, kind, jobs):
        same = list(jobs)
        for name, call in CALLS.items():
            with self.subTest(call=name):
                with self.assertRaises(kind):
                    call(jobs)
                self.assertTrue(len(jobs) == len(same) and all(a is b for a, b in zip(jobs, same)))

    def test_no_jobs_are_taken(self):
        self.taken([])

    def test_sixty_jobs_are_taken(self):
        self.taken(list(SIXTY))

    def test_sixty_equal_jobs_are_taken(self):
        self.taken([(0, 1, 2)] * 60)

    def test_sixty_one_jobs_are_too_many(self):
        self.refused(TooMany, SIXTY + [(60, 1, 61)])

    def test_a_great_many_are_too_many(self):
        self.refused(TooMany, SIXTY * 10)

    def test_each_thing_that_is_no_job_is_refused(self):
        for thing in NO_JOBS + [Touchy(), (0, Touchy(), 2)]:
            self.refused(BadJob, [thing])

    def test_no_job_is_refused_wherever_it_stands(self):
        for place in (0, 1, 30, 59):
            jobs = list(SIXTY)
            jobs[place] = (0, 0, 1)
            self.refused(BadJob, jobs)

    def test_too_many_goes_ahead_of_no_job(self):
        for place in (0, 30, 60):
            jobs = SIXTY + [(60, 1, 61)]
            jobs[place] = None
            self.refused(TooMany, jobs)
        self.refused(TooMany, [Touchy()] * 61)


if __name__ == "__main__":
    unittest.main()

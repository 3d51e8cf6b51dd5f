import itertools
import unittest

from deadlinerun.jobs import asked
from deadlinerun.looking import ends, late, meets
from deadlinerun.running import run

from samples import GREAT, SIXTY, small_lists, slow_run


class Meets(unittest.TestCase):
    def yes(self, jobs, way):
        self.assertIs(meets(jobs, way), True, (jobs, way))

    def no(self, jobs, way):
        self.assertIs(meets(jobs, way), False, (jobs, way))

    def test_no_jobs_the_empty_list_alone(self):
        self.yes([], [])
        for piece in ((0, 0, 1), (-1, 0, 1), (1, 0, 1), (0, 0, 0), (0, 1, 0)):
            self.no([], [piece])

    def test_one_job(self):
        self.yes([(0, 3, 5)], [(0, 0, 3)])
        self.yes([(0, 3, 5)], [(0, 1, 4)])
        self.yes([(0, 3, 5)], [(0, 2, 5)])
        self.yes([(0, 3, 5)], [(0, 0, 1), (0, 2, 3), (0, 4, 5)])

    def test_pieces_that_touch(self):
        self.yes([(0, 3, 5)], [(0, 0, 1), (0, 1, 3)])
        self.yes([(0, 2, 5), (0, 2, 5)], [(0, 0, 1), (1, 1, 3), (0, 3, 4)])

    def test_not_nearest_due_first(self):
        self.yes([(0, 1, 9), (0, 1, 5)], [(0, 0, 1), (1, 1, 2)])

    def test_equal_jobs(self):
        jobs = [(0, 1, 2), (0, 1, 2)]
        self.yes(jobs, [(0, 0, 1), (1, 1, 2)])
        self.yes(jobs, [(1, 0, 1), (0, 1, 2)])
        self.no(jobs, [(0, 0, 1), (0, 1, 2)])

    def test_place_below_nought(self):
        self.no([(0, 1, 5)], [(-1, 0, 1)])
        self.no([(0, 1, 5), (0, 1, 5)], [(0, 0, 1), (-1, 1, 2)])
        self.no([(0, 1, 5)], [(0, 0, 1), (-1, 1, 2)])
        self.no([(0, 1, 5)], [(0, 0, 1), (-2, 1, 2)])

    def test_place_beyond_the_last(self):
        self.no([(0, 1, 5)], [(1, 0, 1)])
        self.no([(0, 1, 5)], [(0, 0, 1), (1, 1, 2)])
        self.no([(0, 1, 5)], [(0, 0, 1), (GREAT, 1, 2)])

    def test_begin_not_less_than_end(self):
        self.no([(0, 1, 5)], [(0, 0, 1), (0, 1, 1)])
        self.no([(0, 1, 5)], [(0, 2, 2), (0, 2, 3)])
        self.no([(0, 1, 5)], [(0, 0, 2), (0, 2, 1)])
        self.no([(0, 1, 5)], [(0, 1, 0)])
        self.no([(0, 1, 5), (0, 1, 5)], [(0, 0, 1), (1, 1, 2), (1, 3, 3)])

    def test_begin_less_than_the_end_ahead(self):
        self.no([(0, 2, 9), (0, 2, 9)], [(0, 0, 2), (1, 1, 3)])
        self.no([(0, 2, 9), (0, 2, 9)], [(0, 2, 4), (1, 0, 2)])
        self.no([(0, 4, 9)], [(0, 0, 2), (0, 1, 3)])
        self.no([(0, 2, 9), (0, 3, 9), (0, 1, 9)], [(0, 0, 2), (1, 2, 5), (2, 4, 5)])

    def test_begins_ahead_of_its_come(self):
        self.no([(1, 2, 9)], [(0, 0, 2)])
        self.yes([(1, 2, 9)], [(0, 1, 3)])
        self.no([(0, 2, 9), (3, 2, 9)], [(0, 0, 2), (1, 2, 4)])

    def test_begins_below_nought(self):
        self.no([(0, 2, 9)], [(0, -1, 1)])
        self.no([(0, 2, 9)], [(0, -3, -1)])

    def test_ends_behind_its_due(self):
        self.yes([(0, 2, 9)], [(0, 7, 9)])
        self.no([(0, 2, 9)], [(0, 8, 10)])
        self.no([(0, 2, 9), (0, 1, 3)], [(0, 0, 2), (1, 3, 4)])

    def test_the_dues_and_comes_are_each_jobs_own(self):
        jobs = [(0, 1, 2), (5, 1, 9)]
        self.yes(jobs, [(0, 0, 1), (1, 5, 6)])
        self.no(jobs, [(1, 0, 1), (0, 5, 6)])

    def test_less_or_more_than_the_length(self):
        self.no([(0, 3, 9)], [(0, 0, 2)])
        self.no([(0, 3, 9)], [(0, 0, 4)])
        self.no([(0, 3, 9)], [])
        self.no([(0, 3, 9)], [(0, 0, 1), (0, 4, 5)])
        self.no([(0, 3, 9)], [(0, 0, 2), (0, 4, 6)])
        self.no([(0, 3, 9), (0, 1, 9)], [(0, 0, 3)])
        self.no([(0, 3, 9), (0, 1, 9)], [(0, 0, 2), (1, 2, 4)])

    def test_sixty_jobs(self):
        way = [(place, place, place + 1) for place in range(60)]
        self.yes(SIXTY, way)
        self.no(SIXTY, way[:59])
        self.no(SIXTY, way + [(60, 60, 61)])
        self.no(SIXTY, way[::-1])

    def test_great_numbers(self):
        self.yes([(0, GREAT, GREAT)], [(0, 0, GREAT)])
        self.no([(0, GREAT, GREAT)], [(0, 0, GREAT - 1)])
        self.no([(1, GREAT - 1, GREAT)], [(0, 0, GREAT - 1)])
        self.no([(0, 1, GREAT)], [(0, GREAT, GREAT + 1)])
        self.no([(0, 1, GREAT)], [(-GREAT, -GREAT, GREAT)])

    def test_every_way_of_two_small_pieces(self):
        jobs = [(0, 1, 3), (1, 1, 2)]
        pieces = list(itertools.product(range(-1, 3), range(-1, 4), range(-1, 5)))
        met = [way for way in itertools.product(pieces, repeat=2) if meets(jobs, list(way))]
        self.assertEqual(met, [((0, 0, 1), (1, 1, 2)), ((1, 1, 2), (0, 2, 3))])

    def test_the_run_meets_the_jobs_just_where_none_is_late(self):
        for jobs in small_lists():
            self.assertIs(meets(jobs, run(jobs)), late(jobs) == [], jobs)

    def test_where_any_way_meets_the_jobs_the_run_does(self):
        for jobs in small_lists():
            if len(jobs) == 2:
                order = [place for place, job in enumerate(jobs) for _ in range(job[1])]
                any_way = False
                for times in itertools.permutations(range(5), len(order)):
                    way = [(place, time, time + 1) for time, place in sorted(zip(times, order))]
                    if meets(jobs, way):
                        any_way = True
                        break
                self.assertIs(any_way, meets(jobs, run(jobs)), jobs)

    def test_no_way_meets_where_a_stretch_asks_for_more(self):
        for jobs in small_lists():
            if any(asked(jobs, come, due) > due - come for come in range(5) for due in range(come + 1, 9)):
                self.assertIs(meets(jobs, run(jobs)), False)

    def test_handed_in_stays(self):
        jobs = [(0, 2, 5), (0, 2, 5)]
        way = [(0, 0, 1), (1, 1, 3), (0, 3, 4)]
        for _ in range(2):
            self.yes(jobs, way)
            self.assertEqual(jobs, [(0, 2, 5), (0, 2, 5)])
            self.assertEqual(way, [(0, 0, 1), (1, 1, 3), (0, 3, 4)])
        way.append((2, 5, 6))
        self.no(jobs, way)
        self.assertEqual(way, [(0, 0, 1), (1, 1, 3), (0, 3, 4), (2, 5, 6)])


class Ends(unittest.TestCase):
    def test_no_jobs(self):
        self.assertEqual(ends([]), [])

    def test_by_place(self):
        self.assertEqual(ends([(0, 1, 9), (0, 2, 5), (0, 3, 7)]), [6, 2, 5])

    def test_the_last_piece_counts(self):
        self.assertEqual(ends([(0, 5, 20), (2, 1, 9)]), [6, 3])

    def test_waiting(self):
        self.assertEqual(ends([(9, 1, 20), (1, 2, 9)]), [10, 3])

    def test_past_the_due(self):
        self.assertEqual(ends([(0, 5, 2), (1, 2, 9)]), [5, 7])

    def test_equal_jobs(self):
        self.assertEqual(ends([(0, 2, 3)] * 60), list(range(2, 121, 2)))

    def test_great_numbers(self):
        self.assertEqual(ends([(GREAT - 1, GREAT, GREAT), (0, GREAT, GREAT)]), [2 * GREAT - 1, 2 * GREAT])

    def test_sixty_jobs(self):
        self.assertEqual(ends(SIXTY), list(range(1, 61)))

    def test_unit_by_unit(self):
        for jobs in small_lists():
            told = {place: end for place, begin, end in slow_run(jobs)}
            self.assertEqual(ends(jobs), [told[place] for place in range(len(jobs))])

    def test_handed_in_stays(self):
        jobs = [(0, 5, 20), (2, 1, 9)]
        ends(jobs)
        self.assertEqual(jobs, [(0, 5, 20), (2, 1, 9)])

    def test_told_is_the_askers_own(self):
        jobs = [(0, 5, 20), (2, 1, 9)]
        first = ends(jobs)
        second = ends(jobs)
        first.clear()
        jobs.pop()
        ends(jobs)
        self.assertEqual(second, [6, 3])


class Late(unittest.TestCase):
    def test_no_jobs(self):
        self.assertEqual(late([]), [])

    def test_done_just_at_its_due(self):
        self.assertEqual(late([(0, 3, 3)]), [])
        self.assertEqual(late([(0, 3, 3), (0, 2, 5)]), [])

    def test_done_one_behind_its_due(self):
        self.assertEqual(late([(0, 4, 3)]), [0])
        self.assertEqual(late([(0, 3, 3), (0, 3, 5)]), [1])

    def test_by_their_dues(self):
        self.assertEqual(late([(0, 9, 7), (0, 9, 5), (0, 9, 6)]), [1, 2, 0])

    def test_same_due_by_place(self):
        self.assertEqual(late([(0, 9, 7), (0, 9, 5), (0, 9, 7), (0, 9, 5)]), [1, 3, 0, 2])

    def test_by_their_dues_where_one_broke_another_off(self):
        jobs = [(0, 9, 8), (10, 9, 11), (0, 1, 3), (5, 9, 12)]
        self.assertEqual(ends(jobs), [10, 19, 1, 28])
        self.assertEqual(late(jobs), [0, 1, 3])
        jobs = [(0, 7, 6), (4, 2, 5)]
        self.assertEqual(ends(jobs), [9, 6])
        self.assertEqual(late(jobs), [1, 0])

    def test_some_late_and_some_not(self):
        self.assertEqual(late([(0, 2, 20), (0, 4, 3), (0, 2, 9), (6, 3, 8)]), [1, 3])

    def test_late_behind_a_wait(self):
        self.assertEqual(late([(7, 2, 9), (7, 2, 10), (20, 1, 21)]), [1])

    def test_equal_jobs(self):
        self.assertEqual(late([(0, 2, 7)] * 60), list(range(3, 60)))

    def test_sixty_jobs(self):
        self.assertEqual(late(SIXTY), [])
        self.assertEqual(late([(place, 2, place + 2) for place in range(60)]), list(range(1, 60)))

    def test_great_numbers(self):
        self.assertEqual(late([(0, GREAT, GREAT)]), [])
        self.assertEqual(late([(1, GREAT, GREAT)]), [0])
        self.assertEqual(late([(0, GREAT, GREAT)] * 3), [1, 2])

    def test_unit_by_unit(self):
        for jobs in small_lists():
            told = {place: end for place, begin, end in slow_run(jobs)}
            rows = [(job[2], place) for place, job in enumerate(jobs) if told[place] > job[2]]
            self.assertEqual(late(jobs), [place for due, place in sorted(rows)])

    def test_handed_in_stays(self):
        jobs = [(0, 9, 7), (0, 9, 5), (0, 9, 6)]
        late(jobs)
        self.assertEqual(jobs, [(0, 9, 7), (0, 9, 5), (0, 9, 6)])

    def test_told_is_the_askers_own(self):
        jobs = [(0, 9, 7), (0, 9, 5), (0, 9, 6)]
        first = late(jobs)
        second = late(jobs)
        first.clear()
        jobs.pop()
        late(jobs)
        self.assertEqual(second, [1, 2, 0])
        self.assertEqual(late([(0, 9, 7), (0, 9, 5), (0, 9, 6)]), second)


if __name__ == "__main__":
    unittest.main()

import random
import unittest

from deadlinerun.answering import answer
from deadlinerun.book import Book
from deadlinerun.errors import BadJob, OutOfPlace, TooMany
from deadlinerun.running import run

from samples import GREAT, NO_JOBS, SIXTY, Touchy, is_met


def book_of(jobs):
    book = Book()
    for job in jobs:
        if book.take(job) is not None:
            raise AssertionError(f"{job} is not held")
    return book


class Take(unittest.TestCase):
    def test_none_at_first(self):
        book = Book()
        self.assertEqual(book.listed(), [])
        self.assertEqual(book.plan(), [])

    def test_held_behind_all_others(self):
        book = Book()
        self.assertIsNone(book.take((0, 5, 20)))
        self.assertEqual(book.listed(), [(0, 5, 20)])
        self.assertIsNone(book.take((2, 1, 9)))
        self.assertEqual(book.listed(), [(0, 5, 20), (2, 1, 9)])
        self.assertEqual(book.plan(), [(0, 0, 2), (1, 2, 3), (0, 3, 6)])

    def test_done_just_at_its_due(self):
        book = book_of([(0, 3, 3)])
        self.assertIsNone(book.take((3, 2, 5)))
        self.assertIsNone(book.take((0, 4, 9)))
        self.assertEqual(book.plan(), [(0, 0, 3), (1, 3, 5), (2, 5, 9)])

    def test_not_held_where_it_is_late_itself(self):
        book = book_of([(0, 3, 3)])
        self.assertEqual(book.take((0, 3, 5)), (1, 0, 5))
        self.assertEqual(book.listed(), [(0, 3, 3)])
        self.assertEqual(book.plan(), [(0, 0, 3)])

    def test_not_held_where_another_becomes_late(self):
        book = book_of([(0, 1, 2), (4, 3, 8), (4, 1, 20)])
        self.assertEqual(book.take((5, 2, 7)), (1, 4, 8))
        self.assertEqual(book.listed(), [(0, 1, 2), (4, 3, 8), (4, 1, 20)])

    def test_not_held_in_an_empty_book(self):
        book = Book()
        self.assertEqual(book.take((2, 9, 8)), (0, 2, 8))
        self.assertEqual(book.listed(), [])
        self.assertIsNone(book.take((2, 6, 8)))

    def test_after_a_refusal_others_are_held(self):
        book = book_of([(0, 3, 3)])
        self.assertEqual(book.take((0, 3, 5)), (1, 0, 5))
        self.assertIsNone(book.take((0, 2, 5)))
        self.assertEqual(book.listed(), [(0, 3, 3), (0, 2, 5)])

    def test_equal_jobs(self):
        book = book_of([(1, 2, 7)] * 3)
        self.assertEqual(book.take((1, 2, 7)), (3, 1, 7))
        self.assertEqual(book.listed(), [(1, 2, 7)] * 3)

    def test_told_is_a_tuple_of_whole_numbers(self):
        told = Book().take((2, 9, 8))
        self.assertIs(type(told), tuple)
        self.assertEqual([type(number) for number in told], [int, int, int])

    def test_sixty_held(self):
        book = book_of(SIXTY)
        self.assertEqual(book.listed(), SIXTY)
        self.assertEqual(book.plan(), [(place, place, place + 1) for place in range(60)])
        for job in ((60, 1, 61), (0, 9, 1)):
            with self.assertRaises(TooMany):
                book.take(job)
        self.assertEqual(book.listed(), SIXTY)

    def test_the_sixtieth_may_be_late(self):
        book = book_of(SIXTY[:59])
        self.assertEqual(book.take((58, 1, 59)), (59, 0, 59))
        self.assertEqual(book.listed(), SIXTY[:59])
        self.assertIsNone(book.take((59, 1, 60)))

    def test_sixty_held_and_one_dropped(self):
        book = book_of(SIXTY)
        self.assertEqual(book.drop(7), (7, 1, 8))
        self.assertIsNone(book.take((0, 1, 90)))
        self.assertEqual(book.listed(), SIXTY[:7] + SIXTY[8:] + [(0, 1, 90)])
        with self.assertRaises(TooMany):
            book.take((60, 1, 61))

    def test_no_jobs(self):
        for thing in NO_JOBS + [Touchy(), (0, Touchy(), 2)]:
            for held in ([], [(0, 1, 2)]):
                book = book_of(held)
                with self.assertRaises(BadJob):
                    book.take(thing)
                self.assertEqual(book.listed(), held)

    def test_no_job_goes_ahead_of_too_many(self):
        book = book_of(SIXTY)
        for thing in NO_JOBS:
            with self.assertRaises(BadJob):
                book.take(thing)
        self.assertEqual(book.listed(), SIXTY)

    def test_great_numbers(self):
        book = book_of([(1, GREAT - 1, GREAT)])
        self.assertEqual(book.take((GREAT - 1, 1, GREAT)), (1, 1, GREAT))
        self.assertIsNone(book.take((0, 1, GREAT)))
        self.assertEqual(book.plan(), [(1, 0, 1), (0, 1, GREAT)])


class Drop(unittest.TestCase):
    def test_those_behind_move_up_by_one(self):
        book = book_of([(0, 1, 9), (0, 2, 9), (0, 3, 9)])
        self.assertEqual(book.drop(1), (0, 2, 9))
        self.assertEqual(book.listed(), [(0, 1, 9), (0, 3, 9)])
        self.assertEqual(book.plan(), [(0, 0, 1), (1, 1, 4)])
        self.assertEqual(book.drop(1), (0, 3, 9))
        self.assertEqual(book.drop(0), (0, 1, 9))
        self.assertEqual(book.listed(), [])
        self.assertEqual(book.plan(), [])

    def test_the_first_and_the_last(self):
        book = book_of(SIXTY)
        self.assertEqual(book.drop(59), (59, 1, 60))
        self.assertEqual(book.drop(0), (0, 1, 1))
        self.assertEqual(book.listed(), SIXTY[1:59])

    def test_of_equal_jobs_one_leaves(self):
        book = book_of([(0, 1, 9), (0, 2, 9), (0, 1, 9)])
        self.assertEqual(book.drop(2), (0, 1, 9))
        self.assertEqual(book.listed(), [(0, 1, 9), (0, 2, 9)])

    def test_room_is_made(self):
        book = book_of([(0, 3, 3), (0, 2, 5)])
        self.assertEqual(book.take((1, 1, 4)), (1, 0, 5))
        self.assertEqual(book.drop(0), (0, 3, 3))
        self.assertIsNone(book.take((1, 1, 4)))
        self.assertEqual(book.listed(), [(0, 2, 5), (1, 1, 4)])

    def test_out_of_place(self):
        for held in ([], [(0, 1, 2)], [(0, 1, 9), (0, 2, 9)], SIXTY):
            book = book_of(held)
            many = len(held)
            for place in (-1, -2, -many, -many - 1, -GREAT, many, many + 1, 60, 61, GREAT, 10 ** 5000, -10 ** 5000):
                if 0 <= place < many:
                    continue
                with self.assertRaises(OutOfPlace):
                    book.drop(place)
                self.assertEqual(book.listed(), held)

    def test_a_place_is_gone_with_the_last(self):
        book = book_of([(0, 1, 9), (0, 2, 9)])
        book.drop(0)
        with self.assertRaises(OutOfPlace):
            book.drop(1)
        self.assertEqual(book.listed(), [(0, 2, 9)])


class Told(unittest.TestCase):
    def test_what_the_asker_does_changes_nothing_in_the_book(self):
        book = book_of([(0, 5, 20), (2, 1, 9)])
        book.listed().append((0, 1, 1))
        book.listed().clear()
        book.plan().pop()
        book.plan().clear()
        self.assertEqual(book.listed(), [(0, 5, 20), (2, 1, 9)])
        self.assertEqual(book.plan(), [(0, 0, 2), (1, 2, 3), (0, 3, 6)])
        empty = Book()
        empty.listed().append((0, 1, 2))
        empty.plan().append((0, 0, 1))
        self.assertEqual(empty.listed(), [])
        self.assertEqual(empty.plan(), [])

    def test_what_is_done_to_the_book_changes_nothing_that_was_told(self):
        book = book_of([(0, 5, 20), (2, 1, 9)])
        listed = book.listed()
        plan = book.plan()
        late = book.take((0, 9, 1))
        book.take((30, 1, 40))
        book.drop(0)
        self.assertEqual(listed, [(0, 5, 20), (2, 1, 9)])
        self.assertEqual(plan, [(0, 0, 2), (1, 2, 3), (0, 3, 6)])
        self.assertEqual(late, (2, 0, 1))
        self.assertEqual(book.listed(), [(2, 1, 9), (30, 1, 40)])

    def test_new_lists_each_time(self):
        for held in ([], [(0, 5, 20)]):
            book = book_of(held)
            self.assertIsNot(book.listed(), book.listed())
            self.assertIsNot(book.plan(), book.plan())
            self.assertIs(type(book.listed()), list)
            self.assertIs(type(book.plan()), list)

    def test_two_books_have_nothing_in_common(self):
        one = Book()
        other = Book()
        one.take((0, 5, 5))
        self.assertEqual(other.listed(), [])
        self.assertIsNone(other.take((0, 4, 5)))
        self.assertEqual(one.listed(), [(0, 5, 5)])
        one.drop(0)
        self.assertEqual(other.listed(), [(0, 4, 5)])
        self.assertEqual(other.plan(), [(0, 0, 4)])
        self.assertEqual(Book().listed(), [])


class ManySteps(unittest.TestCase):
    def test_like_a_list_that_is_kept_by_hand(self):
        chance = random.Random(11)
        book = Book()
        held = []
        for _ in range(1500):
            if held and chance.randrange(5) == 0:
                place = chance.randrange(len(held))
                self.assertEqual(book.drop(place), held.pop(place))
            else:
                come = chance.randrange(40)
                job = (come, chance.randrange(1, 5), come + chance.randrange(1, 12))
                told = book.take(job)
                if is_met(held + [job]):
                    self.assertIsNone(told)
                    held.append(job)
                else:
                    self.assertEqual(("late",) + told, answer(held + [job]))
            self.assertEqual(book.listed(), held)
            self.assertEqual(book.plan(), run(held))


if __name__ == "__main__":
    unittest.main()

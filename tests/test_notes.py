import unittest

from deadlinerun.errors import NoRow, TooMany
from deadlinerun.notes import read, written

from samples import GREAT, SIXTY, small_lists

# Each way in which a row is not so, or its numbers make no job.
NO_ROWS = [
    "",
    " ",
    "0",
    "0 1",
    "0 1 ",
    " 0 1",
    "0 1 2 3",
    "0 1 2 ",
    " 0 1 2",
    "0  1 2",
    "0 1  2",
    "0  1",
    "\t0 1 2",
    "0 1 2\t",
    "0\t1\t2",
    "0 1\t2",
    "0 1 \t2",
    "00 1 2",
    "0 01 2",
    "0 1 02",
    "+0 1 2",
    "-0 1 2",
    "-1 1 2",
    "0 +1 2",
    "0 -1 2",
    "0 1 +2",
    "0 1 -2",
    "0.0 1 2",
    "0 1. 2",
    "1_0 1 20",
    "0 1_0 20",
    "0 1 2_0",
    "0,1,2",
    "0, 1, 2",
    "(0, 1, 2)",
    "0x0 1 2",
    "0 1e1 20",
    "a b c",
    "0 1 b",
    "0 1 2#",
    "0 1 2;",
    "0 1 2~",
    "0 0 2",
    "0 1 0",
    "5 1 5",
    "5 1 4",
    "0 1 1" + "0" * 60,
    "0 1" + "0" * 60 + " 2",
    "1" + "0" * 60 + " 1 2",
    "0 1 " + "9" * 61,
    "0 1 " + "9" * 5000,
    "0 1 0" + "9" * 60,
]


class Written(unittest.TestCase):
    def test_no_jobs(self):
        self.assertEqual(written([]), "")

    def test_rows_in_order(self):
        self.assertEqual(written([(0, 5, 20)]), "0 5 20\n")
        self.assertEqual(written([(10, 5, 20), (2, 1, 9), (10, 5, 20)]), "10 5 20\n2 1 9\n10 5 20\n")

    def test_late_jobs_are_written_too(self):
        self.assertEqual(written([(0, 9, 1), (0, 9, 1)]), "0 9 1\n0 9 1\n")

    def test_sixty_jobs(self):
        self.assertEqual(written(SIXTY), "".join(f"{place} 1 {place + 1}\n" for place in range(60)))

    def test_great_numbers(self):
        self.assertEqual(written([(GREAT - 1, GREAT, GREAT)]), "9" * 59 + "8 " + "9" * 60 + " " + "9" * 60 + "\n")

    def test_handed_in_stays(self):
        jobs = [(0, 5, 20), (2, 1, 9)]
        written(jobs)
        self.assertEqual(jobs, [(0, 5, 20), (2, 1, 9)])


class Read(unittest.TestCase):
    def refused(self, kind, text):
        with self.subTest(text=text):
            with self.assertRaises(kind):
                read(text)

    def test_the_empty_text(self):
        self.assertEqual(read(""), [])

    def test_rows_in_order(self):
        self.assertEqual(read("0 5 20\n"), [(0, 5, 20)])
        self.assertEqual(read("10 5 20\n2 1 9\n10 5 20\n"), [(10, 5, 20), (2, 1, 9), (10, 5, 20)])

    def test_late_jobs_are_read_too(self):
        self.assertEqual(read("0 9 1\n"), [(0, 9, 1)])

    def test_kinds_of_values(self):
        told = read("0 5 20\n")
        self.assertIs(type(told), list)
        self.assertIs(type(told[0]), tuple)
        self.assertEqual([type(number) for number in told[0]], [int, int, int])

    def test_sixty_figures(self):
        nines = "9" * 60
        self.assertEqual(read(f"0 {nines} {nines}\n"), [(0, GREAT, GREAT)])
        self.assertEqual(read("1" + "0" * 59 + f" 1 {nines}\n"), [(10 ** 59, 1, GREAT)])

    def test_sixty_one_figures(self):
        self.refused(NoRow, "0 1 1" + "0" * 60 + "\n")
        self.refused(NoRow, "0 1" + "0" * 60 + " 9\n")
        self.refused(NoRow, "1" + "0" * 60 + " 1 2" + "0" * 60 + "\n")

    def test_sixty_line_feeds(self):
        self.assertEqual(read("".join(f"{place} 1 {place + 1}\n" for place in range(60))), SIXTY)
        self.assertEqual(read("0 1 2\n" * 60), [(0, 1, 2)] * 60)

    def test_sixty_one_line_feeds(self):
        self.refused(TooMany, "0 1 2\n" * 61)
        self.refused(TooMany, "0 1 2\n" * 600)

    def test_too_many_goes_ahead_of_no_row(self):
        self.refused(TooMany, "\n" * 61)
        self.refused(TooMany, "x\n" * 61)
        self.refused(TooMany, "0 1 2\n" * 61 + "0 1 2")
        self.refused(TooMany, "0 1 0\n" + "0 1 2\n" * 60)

    def test_sixty_line_feeds_and_more_behind_them(self):
        self.refused(NoRow, "0 1 2\n" * 60 + "0 1 2")
        self.refused(NoRow, "0 1 2\n" * 60 + " ")
        self.refused(NoRow, "\n" * 60)

    def test_no_line_feed_at_the_end(self):
        self.refused(NoRow, "0 1 2")
        self.refused(NoRow, "0 1 23")
        self.refused(NoRow, "0 1 2 ")
        self.refused(NoRow, "0 1 2\t")
        self.refused(NoRow, "0 1 2\n3 1 4")
        self.refused(NoRow, "0 1 2\n0 1 23")
        self.refused(NoRow, "0 1 2\n ")
        self.refused(NoRow, "0 1 2\n\t")
        self.refused(NoRow, " ")
        self.refused(NoRow, "\t")

    def test_each_row_that_is_not_so(self):
        for row in NO_ROWS:
            self.refused(NoRow, row + "\n")

    def test_it_is_refused_wherever_it_stands(self):
        for row in NO_ROWS:
            self.refused(NoRow, row + "\n0 1 2\n")
            self.refused(NoRow, "0 1 2\n" + row + "\n")
            self.refused(NoRow, "0 1 2\n" + row + "\n0 1 2\n")

    def test_each_sign_beside_a_number(self):
        signs = [chr(code) for code in range(32, 127) if not chr(code).isdigit()] + ["\t", "\n"]
        for sign in signs:
            for text in (f"{sign}3 4 9\n", f"3{sign} 4 9\n", f"3 4{sign} 9\n", f"3 4 {sign}9\n", f"3 4 9{sign}\n"):
                self.refused(NoRow, text)
        for sign in signs:
            if sign != " ":
                self.refused(NoRow, f"3{sign}4 9\n")
                self.refused(NoRow, f"3 4{sign}9\n")

    def test_figures_beyond_ascii_are_none(self):
        self.refused(NoRow, "0 1 \u0663\n")
        self.refused(NoRow, "0 1 \u00b2\n")

    def test_told_is_the_askers_own(self):
        first = read("0 5 20\n2 1 9\n")
        second = read("0 5 20\n2 1 9\n")
        first.clear()
        read("").append((0, 1, 2))
        self.assertEqual(second, [(0, 5, 20), (2, 1, 9)])
        self.assertEqual(read(""), [])


class ThereAndBack(unittest.TestCase):
    def test_jobs(self):
        for jobs in small_lists():
            self.assertEqual(read(written(jobs)), jobs)

    def test_sixty_jobs_of_great_numbers(self):
        jobs = [(GREAT // (place + 2), GREAT - place, GREAT - place) for place in range(60)]
        self.assertEqual(read(written(jobs)), jobs)

    def test_texts(self):
        for text in ("", "0 1 1\n", "10 5 20\n2 1 9\n10 5 20\n"):
            self.assertEqual(written(read(text)), text)


if __name__ == "__main__":
    unittest.main()

"""Notes: jobs written as a text, a row for each, and read from one."""

from deadlinerun.errors import NoRow, TooMany
from deadlinerun.jobs import LIMIT, check_jobs, sound

FIGURES = "0123456789"
MOST_FIGURES = 60


def written(jobs):
    """Tell the jobs as a text: a row of come, length and due for each."""
    check_jobs(jobs)
    return "".join([f"{come} {length} {due}\n" for come, length, due in jobs])


def read(text):
    """Tell the list of the jobs of which a text tells."""
    if text.count("\n") > LIMIT:
        raise TooMany(f"a text has at most {LIMIT} line feeds")
    if text == "":
        return []
    if not text.endswith("\n"):
        raise NoRow("the last row does not end with a line feed")
    return [_job_of_row(row) for row in text[:-1].split("\n")]


def _job_of_row(row):
    words = row.split(" ")
    if len(words) != 3 or not all([_is_number(word) for word in words]):
        raise NoRow("a row is three numbers with one blank between")
    come, length, due = [int(word) for word in words]
    job = (come, length, due)
    if not sound(job):
        raise NoRow("the numbers of a row make no job")
    return job


def _is_number(word):
    if not 1 <= len(word) <= MOST_FIGURES:
        return False
    if word[0] == "0" and word != "0":
        return False
    # Signs are looked at one by one: Python's own reading takes more than these figures.
    return all([sign in FIGURES for sign in word])

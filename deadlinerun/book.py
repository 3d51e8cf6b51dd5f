"""The book: it holds jobs only as long as some way meets them all."""

from deadlinerun.answering import answer
from deadlinerun.errors import BadJob, OutOfPlace, TooMany
from deadlinerun.jobs import LIMIT, sound
from deadlinerun.running import run


class Book:
    """Jobs that some way meets, none at first."""

    def __init__(self):
        self._jobs = []

    def take(self, job):
        """Hold a job and tell None, or stay and tell (place, begin, end) of the answer with it."""
        if not sound(job):
            raise BadJob("a thing that is no job is not taken")
        if len(self._jobs) >= LIMIT:
            raise TooMany(f"a book holds at most {LIMIT} jobs")
        told = answer(self._jobs + [job])
        if told[0] == "late":
            return told[1:]
        self._jobs.append(job)
        return None

    def drop(self, place):
        """Let the job at a place leave, and tell it."""
        # A place below nought would count from the end.
        if not 0 <= place < len(self._jobs):
            raise OutOfPlace("no job is held at this place")
        return self._jobs.pop(place)

    def listed(self):
        """Tell the jobs held, in order."""
        return list(self._jobs)

    def plan(self):
        """Tell the pieces of the run of the jobs held."""
        return run(self._jobs)

"""Jobs: what one is, how many a list may hold, and what a stretch of time asks for."""

from deadlinerun.errors import BadJob, TooMany

LIMIT = 60


def sound(job):
    """Tell whether a thing is a job: a tuple (come, length, due) of three whole numbers."""
    # The exact kind is asked for: so True and False are no whole numbers,
    # and no method of a foreign kind can fail while it is looked at.
    if type(job) != tuple or len(job) != 3:
        return False
    if not all([type(number) == int for number in job]):
        return False
    come, length, due = job
    return come >= 0 and length >= 1 and due > come


def check_jobs(jobs):
    """Refuse a list with too many things in it, and then one with a thing that is no job."""
    if len(jobs) > LIMIT:
        raise TooMany(f"a list of jobs has at most {LIMIT} things")
    for place, job in enumerate(jobs):
        if not sound(job):
            raise BadJob(f"the thing at place {place} is no job")


def asked(jobs, begin, end):
    """Tell how much time the stretch from begin to end asks for."""
    check_jobs(jobs)
    return time_asked(jobs, begin, end)


def time_asked(jobs, begin, end):
    """Tell the same as asked, of a list that is not checked once more."""
    # No job is due before it comes: where begin is not less than end no job is counted.
    return sum([length for come, length, due in jobs if come >= begin and due <= end])

"""The room: how long one job more may be."""

from deadlinerun.errors import BadJob
from deadlinerun.jobs import check_jobs, sound, time_asked
from deadlinerun.looking import late


def room(jobs, come, due):
    """Tell the greatest length of one job more, 0 where none will do, None where jobs are late."""
    check_jobs(jobs)
    if not sound((come, 1, due)):
        raise BadJob("this come and due make no job")
    if late(jobs):
        return None
    # Some way meets jobs just where no stretch asks for more time than it has, and
    # the job more adds to those stretches alone that begin at its come or earlier and
    # end at its due or later. Of these the scarcest begin at a come and end at a due.
    begins = [come] + [job[0] for job in jobs if job[0] < come]
    stops = [due] + [job[2] for job in jobs if job[2] > due]
    return min([_spare_time(jobs, begin, end) for begin in begins for end in stops])


def _spare_time(jobs, begin, end):
    return end - begin - time_asked(jobs, begin, end)

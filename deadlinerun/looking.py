"""Looking at ways: whether one meets the jobs, where jobs end, which ones are late."""

from deadlinerun.jobs import check_jobs
from deadlinerun.running import run


def meets(jobs, way):
    """Tell whether a way, a list of pieces (place, begin, end), meets the jobs."""
    check_jobs(jobs)
    worked = [0] * len(jobs)
    # No job comes before 0, so the first piece is not held up by this.
    free = 0
    for place, begin, end in way:
        if not 0 <= place < len(jobs):
            return False
        if begin < free or not _piece_fits(jobs[place], begin, end):
            return False
        worked[place] += end - begin
        free = end
    return worked == [length for come, length, due in jobs]


def _piece_fits(job, begin, end):
    come, _, due = job
    return come <= begin < end <= due


def ends(jobs):
    """Tell the end of each job in the run, by place."""
    told = [0] * len(jobs)
    # The pieces stand in the order of time: the last one of a job is the one that stays.
    for place, _, end in run(jobs):
        told[place] = end
    return told


def late(jobs):
    """Tell the places of the late jobs, by their dues, of the same due by place."""
    rows = []
    for place, end in enumerate(ends(jobs)):
        due = jobs[place][2]
        if end > due:
            rows.append((due, place))
    return [row[1] for row in sorted(rows)]

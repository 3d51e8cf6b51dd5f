"""The answer: a way that meets the jobs, or a stretch that shows that there is none."""

from deadlinerun.looking import ends, late
from deadlinerun.running import run


def answer(jobs):
    """Tell ("plan", pieces) where no job is late, else ("late", place, begin, end)."""
    places = late(jobs)
    pieces = run(jobs)
    if not places:
        return ("plan", pieces)
    place = places[0]
    end = jobs[place][2]
    return ("late", place, _begin_of_stretch(jobs, pieces, end), end)


def _begin_of_stretch(jobs, pieces, end):
    begin = end
    for place, start, stop in reversed(pieces):
        if start >= end:
            continue
        # The run waits behind this piece, or it works in it at a job that is due later.
        if stop < begin or jobs[place][2] > end:
            break
        begin = start
    return begin


def needed(jobs):
    """Tell the least number by which all dues must be made later so that some way meets the jobs."""
    return max([0] + [end - jobs[place][2] for place, end in enumerate(ends(jobs))])

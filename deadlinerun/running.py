"""The run: at every time the job that is due first is worked at."""

from deadlinerun.jobs import check_jobs


def chosen(jobs, left, time):
    """Tell the place of the job that is worked at at a time, or None."""
    check_jobs(jobs)
    return _first_due(jobs, left, time)


def run(jobs):
    """Tell the run as a list of pieces (place, begin, end) in the order of time."""
    check_jobs(jobs)
    left = [length for come, length, due in jobs]
    pieces = []
    time = 0
    while any(left):
        place = _first_due(jobs, left, time)
        if place is None:
            time = _next_come(jobs, time)
        else:
            end = _end_of_work(jobs, time, left[place])
            _add_piece(pieces, place, time, end)
            left[place] -= end - time
            time = end
    return pieces


def _first_due(jobs, left, time):
    best = None
    for place, (come, length, due) in enumerate(jobs):
        if come > time or left[place] == 0:
            continue
        # Of the same due the one met first stays: it has the least place.
        if best is None or due < jobs[best][2]:
            best = place
    return best


def _next_come(jobs, time):
    return min([come for come, length, due in jobs if come > time])


def _end_of_work(jobs, time, rest):
    # Who is due first can change only where a job comes or this one is done,
    # so the run goes from one such time to the next, however far it is.
    done = time + rest
    return min([come for come, length, due in jobs if time < come < done], default=done)


def _add_piece(pieces, place, begin, end):
    # The run never waits while a job is left that has come. So a job that was
    # worked at last and is worked at again was not broken off: its piece goes on.
    if pieces and pieces[-1][0] == place:
        begin = pieces.pop()[1]
    pieces.append((place, begin, end))

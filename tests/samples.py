"""What several tests share: lists of jobs, things that are no job, a run told unit by unit."""

import itertools
import random

GREAT = 10 ** 60 - 1

# Every way in which a thing is no job.
NO_JOBS = [
    None,
    True,
    5,
    "abc",
    "",
    b"abc",
    [0, 1, 2],
    [],
    {0: 1, 1: 2, 2: 3},
    {0, 1, 2},
    frozenset([0, 1, 2]),
    range(3),
    object(),
    len,
    int,
    (),
    (0,),
    (0, 1),
    (0, 1, 2, 3),
    ((0, 1, 2),),
    (False, 1, 2),
    (0, True, 2),
    (0, 1, True),
    (None, 1, 2),
    (0, None, 2),
    (0, 1, None),
    ("0", 1, 2),
    (0, "1", 2),
    (0, 1, "2"),
    (b"0", b"1", b"2"),
    ([0], 1, 2),
    (0, (1,), 2),
    (0, 1, {2: 2}),
    (0, object(), 2),
    (-1, 1, 2),
    (-GREAT, 1, 2),
    (0, 0, 2),
    (0, -1, 2),
    (0, -GREAT, 2),
    (0, 1, 0),
    (0, 1, -1),
    (5, 1, 5),
    (5, 1, 4),
    (GREAT, 1, GREAT),
    (GREAT, 1, GREAT - 1),
]

# Sixty jobs: each comes as the one ahead ends.
SIXTY = [(place, 1, place + 1) for place in range(60)]


class Touchy:
    """A thing that fails when it is compared, measured, gone over or tested."""

    def fail(self, *rest):
        raise RuntimeError("it was touched")

    __eq__ = __ne__ = __lt__ = __le__ = __gt__ = __ge__ = fail
    __len__ = __iter__ = __getitem__ = __bool__ = __hash__ = __int__ = __index__ = fail


def small_lists():
    """Every list of up to two small jobs, and told ones of up to six."""
    jobs = [(come, length, due) for come in range(3) for length in range(1, 4)
            for due in range(come + 1, 6)]
    for many in range(3):
        for row in itertools.product(jobs, repeat=many):
            yield list(row)
    chance = random.Random(7)
    for _ in range(1500):
        row = []
        for _ in range(chance.randrange(3, 7)):
            come = chance.randrange(0, 12)
            row.append((come, chance.randrange(1, 5), come + chance.randrange(1, 9)))
        yield row


def slow_run(jobs):
    """The run by the words of points 5 and 6, one unit of time after the other."""
    left = [job[1] for job in jobs]
    pieces = []
    time = 0
    while sum(left) > 0:
        there = [(job[2], place) for place, job in enumerate(jobs) if job[0] <= time and left[place] > 0]
        if there:
            place = min(there)[1]
            left[place] -= 1
            if pieces and pieces[-1][0] == place and pieces[-1][2] == time:
                pieces[-1] = (place, pieces[-1][1], time + 1)
            else:
                pieces.append((place, time, time + 1))
        time += 1
    return pieces


def slow_ends(jobs):
    """The end of each job in the slow run, by place."""
    told = {place: end for place, begin, end in slow_run(jobs)}
    return [told[place] for place in range(len(jobs))]


def is_met(jobs):
    """Whether no job is late in the slow run."""
    return all(end <= job[2] for end, job in zip(slow_ends(jobs), jobs))


def met_lists():
    """The small lists in which no job is late."""
    return [jobs for jobs in small_lists() if is_met(jobs)]


def late_lists():
    """The small lists in which a job is late."""
    return [jobs for jobs in small_lists() if not is_met(jobs)]

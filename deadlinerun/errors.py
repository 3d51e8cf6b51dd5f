"""The refusals of the program."""


class RunError(ValueError):
    """Any refusal."""


class BadJob(RunError):
    """A thing that is no job was handed in as one."""


class TooMany(RunError):
    """More things were handed in than a list of jobs may hold."""


class OutOfPlace(RunError):
    """A place was told at which no job is held."""


class NoRow(RunError):
    """A text was handed in that does not tell jobs, row by row."""

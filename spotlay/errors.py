"""The refusals of Spotlay."""


class LayError(ValueError):
    """Any refusal."""


class NoJob(LayError):
    """What was handed in is no job."""


class NoLaying(LayError):
    """What was handed in is no laying of the job."""


class NoWork(LayError):
    """There is no such work or place, or one was told with itself."""


class NoNumber(LayError):
    """What was handed in is no number that may stand there."""


class NoLine(LayError):
    """The job's places lie on no line."""


class NoHub(LayError):
    """The job has no hub."""


class TooMany(LayError):
    """The job has too many works."""


class Nothing(LayError):
    """No deed is left to be undone."""


class NoText(LayError):
    """What was handed in is not the text of a job."""


class NoRow(LayError):
    """What was handed in is no row that the desk takes."""

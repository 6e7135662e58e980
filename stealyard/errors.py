"""The refusals of the package."""


class YardError(ValueError):
    """Any refusal."""


class TooMany(YardError):
    """A plan has more tasks than it may."""


class NoCrew(YardError):
    """A plan has no worker, or more than it may."""


class NoTask(YardError):
    """A number in a plan is none of a task."""


class Early(YardError):
    """A task comes of one that it isn't greater than."""


class Twice(YardError):
    """A task stands in a plan a second time."""


class NoWorker(YardError):
    """A number is none of a worker."""


class NoStep(YardError):
    """A worker that rests is asked for a step."""

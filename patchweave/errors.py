"""The refusals, one class for each kind."""


class WeaveError(ValueError):
    """Any refusal."""


class BadChange(WeaveError):
    """A change, or a part of one, is not of the form that changes have."""


class NotLeaned(WeaveError):
    """A mark has a name on which its change does not lean."""


class Twice(WeaveError):
    """A name is there already."""


class Missing(WeaveError):
    """No change has a name that is needed."""


class NoLine(WeaveError):
    """A mark tells a line that its change does not add."""


class Other(WeaveError):
    """One name has two different changes."""


class Ring(WeaveError):
    """Leanings lead back to where they began."""


class NoNote(WeaveError):
    """A text is not the note of a change."""

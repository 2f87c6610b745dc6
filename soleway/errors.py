"""The refusals: each is a WayError, straight under it."""


class WayError(ValueError):
    """Any refusal."""


class NoText(WayError):
    """A text that writes no form; `at` is the number of the word that is wrong."""

    def __init__(self, at):
        super().__init__(f"no form's text: wrong from word {at} on")
        self.at = at


class TooMany(WayError):
    """More than may be told; `most` is the limit."""

    def __init__(self, most):
        super().__init__(f"there are more than {most}")
        self.most = most


class TooWide(WayError):
    """A form with too many stands, or a machine with too many rooms."""


class NotOnce(WayError):
    """A form that does not tell places at once."""


class NoSign(WayError):
    """A sign that may not come, or none to go back by."""


class NoRow(WayError):
    """A row of words that a desk does not know."""


class NoName(WayError):
    """A name under which a desk keeps nothing."""

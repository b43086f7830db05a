"""What the program refuses, each an error of its own."""


class NoFormula(Exception):
    """A row of bytes is no formula."""


class NoRule(Exception):
    """A name is read that there is no rule of."""


class Ring(Exception):
    """A name is read while it is being brought up itself."""


class TooLong(Exception):
    """A text would have more bytes than a text may have."""


class NoCall(Exception):
    """A number is handed in as a call that is none."""

"""The errors that the program raises."""


class BookError(ValueError):
    """The base class of all errors of the program."""


class Refused(BookError):
    """What is asked for cannot be done; `what` is the text that the document quotes."""

    def __init__(self, what):
        super().__init__(what)
        self.what = what


class BadManuscript(BookError):
    """A text cannot be read: the line, counted from 1, and what is wrong with it."""

    def __init__(self, line, what):
        super().__init__(f"line {line}: {what}")
        self.line = line
        self.what = what

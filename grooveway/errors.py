"""The refusals: one class for each, all straight under GrooveError."""


class GrooveError(ValueError):
    pass


class BadMarks(GrooveError):
    pass


class BadRule(GrooveError):
    pass


class BadMark(GrooveError):
    pass


class TooLarge(GrooveError):
    pass


class Nothing(GrooveError):
    pass


class NoRow(GrooveError):
    pass


class BadSign(GrooveError):
    pass


class Unread(GrooveError):
    pass


class BadRow(GrooveError):
    def __init__(self, row):
        GrooveError.__init__(self, f"row {row} of the page isn't a row that may stand there")
        self.row = row


class BadTable(GrooveError):
    def __init__(self, row):
        GrooveError.__init__(self, f"row {row} of the text isn't a row that may stand there")
        self.row = row

"""The refusals, each directly under MailError."""


class MailError(ValueError):
    """Any refusal."""


class BadTown(MailError):
    """A town that can't be: word names its part, number the first row there that can't be."""

    def __init__(self, word, number):
        super().__init__(f"row {number} of the town's {word} can't be")
        self.word = word
        self.number = number


class BadLetter(MailError):
    """A letter for people, at offices or on days that there aren't."""


class BadTime(MailError):
    """A day that can't be asked for."""


class BadPerson(MailError):
    """A person that there isn't."""


class BadKeep(MailError):
    """A number of days to keep a home's letters that can't be."""


class BadText(MailError):
    """A text that writes no orders: row is the first of its rows that is none."""

    def __init__(self, row):
        super().__init__(f"row {row} of the text is no order")
        self.row = row

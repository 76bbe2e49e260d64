"""The refusals: each class stands straight under SkinError."""


class SkinError(ValueError):
    """Any refusal of this package."""

    def __init__(self, words):
        ValueError.__init__(self, words)


class Barred(SkinError):
    """Two corners may not be drawn together; word tells what bars it."""

    def __init__(self, words, word):
        SkinError.__init__(self, words)
        self.word = word


class NoStep(SkinError):
    """There is no such step."""


class AtEnd(SkinError):
    """No step is left that way."""


class NotClosed(SkinError):
    """A choice lacks a step on which one of its own leans."""


class NotYet(SkinError):
    """Other steps must be done, or taken back, ahead of this one."""


class NoJoin(SkinError):
    """The pieces do not make a skin."""


class BadRow(SkinError):
    """A row is not written as it must be; row is its number."""

    def __init__(self, words, row):
        SkinError.__init__(self, words)
        self.row = row


class NoSkin(SkinError):
    """The rows are well written, but make no skin."""

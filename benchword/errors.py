"""The refusals of the program."""


class BenchError(ValueError):
    """Any refusal."""


class TooMany(BenchError):
    """A bench would have more speeches than it can hear."""


class BadName(BenchError):
    """A thing is no name, or the name of a speech that is there ahead."""


class NoSpeech(BenchError):
    """A name is none of the bench's speeches."""


class Twice(BenchError):
    """A pair is there ahead."""


class NotHeld(BenchError):
    """A speech is not held, so no paper shows that it is."""


class NoText(BenchError):
    """A text is not written as benches are."""

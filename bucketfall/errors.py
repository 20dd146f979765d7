"""The refusals of the program."""


class FallError(ValueError):
    """Any refusal."""


class NoBase(FallError):
    """A base that is none."""


class NoNumber(FallError):
    """A number below nought, or a text that writes no number."""


class Late(FallError):
    """A number less than that of the last one gone."""


class Bare(FallError):
    """A store without things is asked for one."""

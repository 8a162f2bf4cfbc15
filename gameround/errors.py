"""The refusals of the program."""


class SeasonError(ValueError):
    pass


class NoGame(SeasonError):
    pass


class ToldTwice(SeasonError):
    pass

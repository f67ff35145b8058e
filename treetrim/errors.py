"""The refusals of the program."""


class TreeError(ValueError):
    pass


class NoStep(TreeError):
    pass


class NoRow(TreeError):
    pass

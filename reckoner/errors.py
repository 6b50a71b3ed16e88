"""The refusals of the program."""


class StepError(ValueError):
    pass


class NoSteps(StepError):
    pass

"""The refusals of the program."""


# Stands above every refusal, so that a caller can take them all by one name.
class PlateError(ValueError):
    pass


# The width of a window is below one.
class NoWidth(PlateError):
    pass

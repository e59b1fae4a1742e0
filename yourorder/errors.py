"""The refusals of the program."""


class OrderError(ValueError):
    pass


class NoElement(OrderError):
    pass


class NoPlace(OrderError):
    pass

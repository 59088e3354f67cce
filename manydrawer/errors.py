"""The refusals of Manydrawer."""


class DrawerError(ValueError):
    pass


class NoCard(DrawerError):
    pass


class NoWidth(DrawerError):
    pass


class NotRising(DrawerError):
    pass

"""The refusals, each a class of its own."""


class BoxError(ValueError):
    pass


class BadYard(BoxError):
    pass


class NotThere(BoxError):
    pass


class Held(BoxError):
    pass


class Red(BoxError):
    pass

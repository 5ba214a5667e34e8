"""The errors that the program raises."""


class MaieuticError(ValueError):
    """The base class of all errors that the program raises."""


class NotAllowed(MaieuticError):
    """An argument is not allowed."""


class BadForm(MaieuticError):
    """A text does not have the required form."""


class Missing(MaieuticError):
    """There is no such thing."""


class Alike(MaieuticError):
    """Two things do not differ."""


class Wrong(MaieuticError):
    """A call does not fit the present step."""


class Broken(MaieuticError):
    """A box contradicts itself."""

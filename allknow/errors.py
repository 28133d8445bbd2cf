"""The base of all errors of the package."""


class KnowError(ValueError):
    """Something that was handed in is not what the document asks for."""

"""The errors of the program."""


class FieldError(ValueError):
    """The base of all errors of the program."""


class BadSchema(FieldError):
    """What should be the types of a schema is none."""


class TooLong(FieldError):
    """The text of a query has too many characters."""


class SyntaxFault(FieldError):
    """A text is no query; offset is where that shows first."""

    def __init__(self, offset):
        super().__init__(f"no query from offset {offset} on")
        self.offset = offset


class CheckFault(FieldError):
    """A query does not fit its schema: a reason, and the name that it is about."""

    def __init__(self, reason, name):
        super().__init__(f"{reason}: {name}")
        self.reason = reason
        self.name = name


class BadGraph(FieldError):
    """What should be a graph of a schema is none."""


class TooLarge(FieldError):
    """A response has too many objects."""


class NotDetermined(FieldError):
    """The queries do not determine the other query."""


class NoMatch(FieldError):
    """The response with this index does not match its query."""

    def __init__(self, index):
        super().__init__(f"response {index} does not match its query")
        self.index = index


class Contradiction(FieldError):
    """Responses tell unlike values of a field of the same object."""


class StoreFull(FieldError):
    """A store would have too many writes or know too many objects."""

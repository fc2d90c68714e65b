"""The errors of all parts of the program."""


class NeedError(ValueError):
    """The base class of all errors of the program."""


class TextError(NeedError):
    """Something is wrong at a place of a text."""

    def __init__(self, row, column):
        NeedError.__init__(self, f"row {row}, column {column}")
        self.row = row
        self.column = column


class BadCharacter(TextError):
    """A character that can begin no token."""


class BadNumber(TextError):
    """What begins with a digit and is no number."""


class Unexpected(TextError):
    """A token that the grammar does not allow at its place."""


class ScopeError(NeedError):
    """Something is wrong with a name of a program."""

    def __init__(self, kind, name):
        NeedError.__init__(self, f"{kind} {name}")
        self.kind = kind
        self.name = name


class DoubleName(ScopeError):
    """Something is named twice."""


class UnknownName(ScopeError):
    """Something is used that is not in scope."""


class WrongCount(ScopeError):
    """Something has the wrong number of parts."""


class MissingName(ScopeError):
    """Something that must be there is not."""


class KindError(NeedError):
    """Something is wrong with the types of a group or a method."""

    def __init__(self, name):
        NeedError.__init__(self, f"{name}")
        self.name = name


class IllTyped(KindError):
    """There is no way to give types."""


class NoInstance(KindError):
    """A need has no instance."""


class Ambiguous(KindError):
    """Nothing tells which instance is meant."""


class CannotUnify(NeedError):
    """Two types cannot be made equal."""


class CodeError(NeedError):
    """Something is wrong with a normal form, its code or its image."""


class Unknown(CodeError):
    """A name that is neither in scope nor a global function."""

    def __init__(self, name):
        CodeError.__init__(self, f"{name}")
        self.name = name


class BadArity(CodeError):
    """A main function with parameters."""

    def __init__(self, name):
        CodeError.__init__(self, f"{name}")
        self.name = name


class BadCode(CodeError):
    """A value that is no code program."""


class BadImage(CodeError):
    """A row that is no image."""


class CoreError(NeedError):
    """Something is wrong with a core program."""


class BadCore(CoreError):
    """A definition that is no core term."""

    def __init__(self, name):
        CoreError.__init__(self, f"{name}")
        self.name = name


class UnboundName(CoreError):
    """A free name that is not global, or a main that is not defined."""

    def __init__(self, name):
        CoreError.__init__(self, f"{name}")
        self.name = name


class TwiceBound(CoreError):
    """A name that is defined twice."""

    def __init__(self, name):
        CoreError.__init__(self, f"{name}")
        self.name = name


class MainIsFunction(CoreError):
    """A main with lams at its beginning."""

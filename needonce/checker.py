"""From the text of a program to its core, or to its first error."""

from needonce.elaborate import elaborate
from needonce.infer import infer_program
from needonce.parser import parse
from needonce.prelude import with_prelude
from needonce.scopes import check_scopes


def check(text, *, prelude=True):
    """Returns the core program of a text."""
    return elaborate(_declarations(text, prelude))


def schemes(text, *, prelude=True):
    """Returns the schemes of the definitions at the top of a text, those of the prelude included."""
    return infer_program(_declarations(text, prelude))


def _declarations(text, prelude):
    """The declarations of a text, which are in order but for their types."""
    program = parse(text)
    if prelude:
        program = with_prelude(program)
    check_scopes(program)
    return program

"""Shorter code, which does alike in fewer rows and steps."""

from fairweather.codes import Code
from fairweather.errors import BadCode
from fairweather.trimming import Trimming


def shorter(code):
    """A trim code that does alike, the code itself if it is trim."""
    if not isinstance(code, Code):
        raise BadCode("code")
    rows = Trimming(code.rows).trimmed()
    # A code has a row at least; behind the last one it waits, too.
    return Code(rows if rows else [("wait",)])

"""Reads a text into a tree."""

from treequill.errors import BadMode
from treequill.lexing import Lexer
from treequill.read_compound import ProgramReader


def parse(text, mode="exec"):
    """Return the Module of a text, or in the mode "eval" its Expression."""
    if not isinstance(mode, str) or mode not in ("exec", "eval"):
        raise BadMode(mode)
    reader = ProgramReader(Lexer(text).cut())
    if mode == "eval":
        return reader.whole_expression()
    return reader.program()

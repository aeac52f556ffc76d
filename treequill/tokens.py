"""The tokens of texts.

The kind of a keyword or a sign is its text. The other kinds are NAME, NUMBER, STRING, NEWLINE, INDENT,
DEDENT, END, and BAD for a token with which no program goes on. An f-string is cut into FSTRING (its
beginning), TEXT, FIELD (the bracket that begins a field), the tokens of the field, and FEND.
"""

KEYWORDS = (
    "False", "None", "True", "and", "as", "assert", "async", "await", "break", "class", "continue", "def", "del",
    "elif", "else", "except", "finally", "for", "from", "global", "if", "import", "in", "is", "lambda", "nonlocal",
    "not", "or", "pass", "raise", "return", "try", "while", "with", "yield",
)
# Longer ones come first, as the longest token is the one that is taken.
SIGNS = (
    "//=", "**=", "<<=", ">>=", "...",
    "//", "**", "<<", ">>", "<=", ">=", "==", "!=", ":=", "->", "+=", "-=", "*=", "/=", "@=", "&=", "|=", "^=",
    "+", "-", "*", "/", "@", "&", "|", "^", "~", "<", ">", "(", ")", "[", "]", "{", "}", ",", ":", ".", ";", "=",
)
BRACKETS = {"(": ")", "[": "]", "{": "}"}
CLOSING = (")", "]", "}")
# Tokens that no node begins or ends with.
LAYOUT = ("NEWLINE", "INDENT", "DEDENT", "END")


class Token:
    """A token: text as it is written, value what a literal stands for, and the places of start and end.

    Of a STRING octets tells whether it has b; fault is the place in it at which no program goes on, or None.
    """

    def __init__(self, kind, text, start, end):
        self.kind = kind
        self.text = text
        self.start = start
        self.end = end
        self.value = None
        self.octets = False
        self.fault = None

"""Cuts a text into its tokens."""

from treequill.numerals import begins_number, number_at
from treequill.quoting import PREFIXES, QUOTES, quote_at, string_at, text_at
from treequill.tokens import BRACKETS, CLOSING, KEYWORDS, SIGNS, Token


class Bracket:
    """What is open at a place: a bracket, the text of an f-string, or a field or a spec in one.

    kind is the bracket, or one of the words text, field and spec; inner is True for a field in a spec.
    """

    def __init__(self, kind, quote, raw, inner):
        self.kind = kind
        self.quote = quote
        self.raw = raw
        self.inner = inner


class Lexer:
    """Cuts a text; the last token is END, or BAD: what is behind a BAD one does not matter."""

    def __init__(self, text):
        self.text = text
        self.at = 0
        self.tokens = []
        self.opened = []
        self.indents = [0]
        self.in_line = False
        self.places = _places_of(text)

    def cut(self):
        """Return the list of the tokens."""
        while not self.tokens or self.tokens[-1].kind not in ("END", "BAD"):
            within = self.within()
            if within == "text":
                self.cut_text()
            elif within == "spec":
                self.cut_spec()
            elif self.in_line:
                self.cut_token()
            else:
                self.begin_line()
        return self.tokens

    def within(self):
        """Return the kind of what was opened last; the empty string if nothing is open."""
        return self.opened[-1].kind if self.opened else ""

    def add_token(self, kind, end):
        """Add the token that goes from here to an end, and go on behind it."""
        token = Token(kind, self.text[self.at:end], self.places[self.at], self.places[end])
        self.tokens.append(token)
        self.at = end
        return token

    def add_bad(self, at):
        self.at = at
        self.add_token("BAD", at)

    def begin_line(self):
        """Pass over blank lines, and take the indentation of the next one."""
        start = self.at
        self.skip_blanks()
        if self.at == len(self.text):
            self.end_text()
        elif self.text[self.at] == "\n":
            self.at += 1
        else:
            self.indent(self.at - start)
            self.in_line = True

    def skip_blanks(self):
        """Pass over spaces, and over a comment behind them."""
        while self.text.startswith(" ", self.at):
            self.at += 1
        if self.text.startswith("#", self.at):
            end = self.text.find("\n", self.at)
            self.at = end if end >= 0 else len(self.text)

    def indent(self, width):
        if width > self.indents[-1]:
            self.indents.append(width)
            self.add_token("INDENT", self.at)
        while width < self.indents[-1]:
            self.indents.pop()
            self.add_token("DEDENT", self.at)
        if width != self.indents[-1]:
            self.add_bad(self.at)

    def end_text(self):
        if not self.opened:
            if self.in_line:
                self.add_token("NEWLINE", self.at)
            while self.indents.pop() > 0:
                self.add_token("DEDENT", self.at)
        self.add_token("END", self.at)

    def cut_token(self):
        """Take the next token of a logical line."""
        self.skip_blanks()
        text, at = self.text, self.at
        if at == len(text):
            self.end_text()
        elif text[at] == "\n":
            self.cut_line_feed()
        elif text[at] == "\\":
            self.cut_backslash()
        elif begins_number(text, at):
            self.cut_number()
        elif text[at] in QUOTES or text[at] == "_" or text[at].isalpha() and text[at].isascii():
            self.cut_word()
        else:
            self.cut_sign()

    def cut_line_feed(self):
        if self.opened:
            self.at += 1
            return
        end = self.at + 1
        self.add_token("NEWLINE", self.at)
        self.at = end
        self.in_line = False

    def cut_backslash(self):
        """Pass over a backslash and a line feed: behind them the text does not end."""
        behind = self.text[self.at + 1:self.at + 3]
        if behind in ("", "\n"):
            self.add_bad(len(self.text))
        elif behind[0] == "\n":
            self.at += 2
        else:
            self.add_bad(self.at)

    def cut_number(self):
        value, end = number_at(self.text, self.at)
        if end is None:
            self.add_bad(self.at)
            return
        token = self.add_token("NUMBER", end)
        token.value = value

    def cut_word(self):
        """Take a name, a keyword, a string, or the beginning of an f-string."""
        end = self.at
        while end < len(self.text) and _goes_on(self.text[end]):
            end += 1
        word = self.text[self.at:end]
        quote = quote_at(self.text, end)
        if quote and word.lower() in PREFIXES:
            self.cut_string(end + len(quote), quote, word.lower())
        elif word == "lambda" and self.within() == "field":
            self.add_bad(self.at)
        else:
            self.add_token(word if word in KEYWORDS else "NAME", end)

    def cut_string(self, body, quote, prefix):
        """Take the string whose body begins at a place, or the beginning of an f-string."""
        raw, octets, fields = PREFIXES[prefix]
        if fields:
            self.add_token("FSTRING", body)
            self.opened.append(Bracket("text", quote, raw, False))
            return
        value, end = string_at(self.text, body, quote, raw, octets)
        token = self.add_token("STRING", end)
        token.value = value
        token.octets = octets
        if value is None:
            token.fault = self.places[end]
            self.add_bad(end)

    def cut_sign(self):
        """Take a sign, or a character at which no token begins."""
        in_field = self.within() == "field"
        if in_field and self.text[self.at] in (":", "!") and not self.text.startswith("!=", self.at):
            self.cut_sign_of_field()
            return
        for sign in SIGNS:
            if self.text.startswith(sign, self.at):
                self.cut_bracket(sign)
                return
        self.add_bad(self.at)

    def cut_bracket(self, sign):
        """Take a sign, which may open or close a bracket."""
        if sign in BRACKETS:
            self.opened.append(Bracket(sign, "", False, False))
        elif sign in CLOSING:
            closes = "}" if self.within() == "field" else BRACKETS.get(self.within())
            if sign != closes:
                self.add_bad(self.at)
                return
            self.opened.pop()
        self.add_token(sign, self.at + len(sign))

    def cut_sign_of_field(self):
        sign = self.text[self.at]
        field = self.opened[-1]
        if sign == ":" and field.inner:
            # A field in a spec has no spec of its own.
            self.add_bad(self.at)
            return
        self.add_token(sign, self.at + 1)
        if sign == ":":
            self.opened.append(Bracket("spec", "", False, False))

    def cut_text(self):
        """Take the text of an f-string up to the next field, or the end of the f-string."""
        within = self.opened[-1]
        value, end = text_at(self.text, self.at, within.quote, within.raw)
        if value is None:
            self.add_bad(end)
            return
        if end > self.at:
            self.add_piece(value, end)
        if self.text.startswith(within.quote, end):
            self.opened.pop()
            self.add_token("FEND", end + len(within.quote))
        else:
            self.open_field(False)

    def add_piece(self, value, end):
        """Add the token of a text in an f-string or a spec."""
        token = self.add_token("TEXT", end)
        token.value = value

    def open_field(self, inner):
        self.add_token("FIELD", self.at + 1)
        self.opened.append(Bracket("field", "", False, inner))

    def cut_spec(self):
        """Take the text of a spec up to the next field, or the end of the spec."""
        end = self.at
        while end < len(self.text) and self.text[end] not in "{}\\'\"\n":
            end += 1
        if end > self.at:
            self.add_piece(self.text[self.at:end], end)
        if self.text.startswith("{", end):
            self.open_field(True)
        elif self.text.startswith("}", end):
            # It ends the field, too.
            self.opened.pop()
            self.opened.pop()
            self.add_token("}", end + 1)
        else:
            self.add_bad(end)


def _places_of(text):
    """Return the pair of line and column for each index of a text, and for its end."""
    places = []
    line, column = 1, 0
    for sign in text:
        places.append((line, column))
        column += 1
        if sign == "\n":
            line, column = line + 1, 0
    places.append((line, column))
    return places


def _goes_on(sign):
    """Tell whether a name may go on with a character."""
    return sign == "_" or sign.isascii() and sign.isalnum()

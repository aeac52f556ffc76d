"""Lays the same program out in other ways: spaces, lines, comments, indentations, joined statements and blocks."""

import random

from treequill.lexing import Lexer

# Tokens after which, or ahead of which, nothing may stand between two tokens.
CLOSED = ("text", "spec")
COMMENTS = ("#", "# a b", "#'\"", "# \\", "#)]}:", "##if a:")


class Layout:
    """One random way to lay out a text that is a program."""

    def __init__(self, seed):
        self.chance = random.Random(seed)

    def one(self, *choices):
        return self.chance.choice(choices)

    def likely(self, part):
        return self.chance.random() < part

    def lay_out(self, text, mode="exec"):
        """Return another text with the same tokens."""
        tokens = Lexer(text).cut()
        assert tokens[-1].kind == "END", text
        lines = text.split("\n")
        starts = [sum(len(line) + 1 for line in lines[:at]) for at in range(len(lines))]
        places = [[starts[line - 1] + column for line, column in (token.start, token.end)] for token in tokens]
        made = self.blank_lines()
        widths, opened = [0], []
        begins = True
        for at, token in enumerate(tokens):
            begin, end = places[at]
            if token.kind == "INDENT":
                widths.append(widths[-1] + self.chance.randint(1, 5))
            elif token.kind == "DEDENT":
                widths.pop()
            elif token.kind == "NEWLINE":
                made += self.line_end() + "\n" + self.blank_lines()
                begins = True
            elif token.kind == "END":
                made = self.end(made)
            else:
                if begins:
                    made += " " * widths[-1]
                elif self.may_have_gap(opened, tokens[at - 1]):
                    made += self.gap(bool(opened), begin > places[at - 1][1])
                begins = False
                made += text[begin:end]
                self.note(opened, token.kind)
        return made

    def may_have_gap(self, opened, before):
        return not (opened and opened[-1] in CLOSED) and before.kind != "!"

    def note(self, opened, kind):
        """Keep account of what is open behind a token."""
        if kind == "FSTRING":
            opened.append("text")
        elif kind in ("FIELD", "(", "[", "{"):
            opened.append(kind)
        elif kind == ":" and opened and opened[-1] == "FIELD":
            opened.append("spec")
        elif kind == "}" and opened[-1] == "spec":
            del opened[-2:]
        elif kind in (")", "]", "}", "FEND"):
            opened.pop()

    def gap(self, in_brackets, needed):
        """Return what stands between two tokens: nothing only where nothing stood before."""
        pieces = [" "] if needed else []
        while self.likely(0.3):
            pieces.append(self.one(" ", "   ", "\\\n", " \\\n "))
            if in_brackets:
                pieces[-1] = self.one(" ", "\n", " \n\n", "\n " + self.one(*COMMENTS) + "\n", "\\\n")
        self.chance.shuffle(pieces)
        return "".join(pieces)

    def line_end(self):
        return self.one("", "", " ", "  ", self.one(*COMMENTS), " " + self.one(*COMMENTS))

    def blank_lines(self):
        made = ""
        while self.likely(0.2):
            made += self.one("", " ", "     ") + self.one("", *COMMENTS) + "\n"
        return made

    def end(self, made):
        """Return a text with another end: without its last line feed, or with an unfinished blank line."""
        if made.endswith("\n") and self.likely(0.5):
            made = made[:-1]
            # A comment without a line feed ends the text as well.
            return made + (" " if self.likely(0.3) and not made.endswith("\\") else "")
        return made + self.one("", "  ", "# a")

    def join_lines(self, text):
        """Join the lines of a written text: statements by ;, and blocks behind their heads."""
        rows = []
        for line in text.split("\n") if text else []:
            depth = (len(line) - len(line.lstrip(" "))) // 4
            within = rows
            for _ in range(depth):
                within = within[-1][1]
            within.append((line.strip(" "), []))
        return "\n".join(self.joined(rows))

    def joined(self, rows):
        lines, simple = [], []
        for head, inner in rows:
            if not inner and not head.startswith("@"):
                simple.append(head)
                continue
            lines += self.grouped(simple)
            simple = []
            lines += self.block(head, inner)
        return lines + self.grouped(simple)

    def grouped(self, statements):
        """Return lines of some statements each."""
        lines, row = [], []
        for statement in statements:
            row.append(statement)
            if self.likely(0.5):
                lines.append(self.row(row))
                row = []
        return lines + ([self.row(row)] if row else [])

    def row(self, statements):
        return self.one(";", "; ", " ; ").join(statements) + self.one("", "", ";", " ; ")

    def block(self, head, inner):
        if inner and all(not rows and not line.startswith("@") for line, rows in inner) and self.likely(0.6):
            return [head + self.one("", " ") + self.row([line for line, _ in inner])]
        width = " " * self.chance.randint(1, 4)
        return [head] + [width + line for line in self.joined(inner)]

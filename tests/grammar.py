"""The rules of DOC.md, sections 5 to 9, and a reader of such rules that knows nothing of the program's reader.

It tells the first token with which no text of the language goes on, by Earley's method: after each token
it has all rules that may be under way, so it refuses a token exactly if none of them goes on with it.
"""

import random
import re

from treequill.lexing import Lexer
from treequill.values import Imaginary

# "x, .." of the document is written out here as x ("," x)*. What can be a target has rules of its own:
# tgt for an expression that can be one, del for one without Starred ones, one for a Name, Attribute or Subscript.
RULES = r"""
program = statement* END
eval = expression ("," expression)* ","? NEWLINE* END
statement = compound | simples
simples = simple (";" simple)* ";"? NEWLINE
block = NEWLINE INDENT statement statement* DEDENT | simples

named = NAME ":=" expression | expression
expression = disjunction ("if" disjunction "else" expression)? | "lambda" lambdas? ":" expression
disjunction = conjunction ("or" conjunction)*
conjunction = inversion ("and" inversion)*
inversion = "not" inversion | comparison
comparison = bit_or (("<" | ">" | "==" | ">=" | "<=" | "!=" | "in" | "not" "in" | "is" | "is" "not") bit_or)*
bit_or = bit_xor ("|" bit_xor)*
bit_xor = bit_and ("^" bit_and)*
bit_and = shift ("&" shift)*
shift = sum (("<<" | ">>") sum)*
sum = term (("+" | "-") term)*
term = factor (("*" | "@" | "/" | "//") factor)*
factor = ("+" | "-" | "~") factor | power
power = awaited ("**" factor)?
awaited = "await"? primary
primary = atom ("." NAME | "(" arguments? ")" | "[" subscript "]")*
atom = NAME | NUMBER | strings | "..." | "None" | "True" | "False" | tuple | group | generator | list | braces
star = "*" bit_or
listing = expression | (expression | star) "," ((expression | star) ("," (expression | star))* ","?)?
right = "yield" listing? | "yield" "from" expression | listing

tuple = "(" ")" | "(" (named | star) "," ((named | star) ("," (named | star))* ","?)? ")"
group = "(" (named | "yield" listing? | "yield" "from" expression) ")"
generator = "(" named comp comp* ")"
list = "[" ((named | star) ("," (named | star))* ","?)? "]" | "[" named comp comp* "]"
braces = set | dict
set = "{" (named | star) ("," (named | star))* ","? "}" | "{" named comp comp* "}"
dict = "{" (pair ("," pair)* ","?)? "}" | "{" expression ":" expression comp comp* "}"
pair = expression ":" expression | "**" bit_or
comp = "async"? "for" targets "in" disjunction ("if" disjunction)*

arguments = plain ("," plain)* ("," keywords)? ","? | keywords ","? | named comp comp*
class_arguments = plain ("," plain)* ("," keywords)? ","? | keywords ","?
plain = named | "*" expression
keywords = keyword ("," (keyword | "*" expression))* ("," "**" expression ("," (keyword | "**" expression))*)? | \
    "**" expression ("," (keyword | "**" expression))*
keyword = NAME "=" expression
subscript = item ("," item)* ","?
item = named | "*" expression | expression? ":" expression? (":" expression?)?

targets = target | (target | "*" target) "," ((target | "*" target) ("," (target | "*" target))* ","?)?
target = tgt
tgt = NAME | primary "." NAME | primary "[" subscript "]" | "(" tgt ")" | "(" ")" | \
    "(" (tgt | "*" tgt) "," ((tgt | "*" tgt) ("," (tgt | "*" tgt))* ","?)? ")" | \
    "[" ((tgt | "*" tgt) ("," (tgt | "*" tgt))* ","?)? "]"
del = NAME | primary "." NAME | primary "[" subscript "]" | "(" del ")" | "(" ")" | \
    "(" del "," (del ("," del)* ","?)? ")" | "[" (del ("," del)* ","?)? "]"
one = NAME | primary "." NAME | primary "[" subscript "]" | "(" one ")"

simple = (tgt_listing "=")+ right | one augmented right | one ":" expression ("=" right)? | right | \
    "return" listing? | "del" del ("," del)* ","? | "raise" (expression ("from" expression)?)? | \
    "assert" expression ("," expression)? | "global" NAME ("," NAME)* | "nonlocal" NAME ("," NAME)* | \
    "import" dotted_as ("," dotted_as)* | "pass" | "break" | "continue" | from
tgt_listing = tgt | (tgt | "*" tgt) "," ((tgt | "*" tgt) ("," (tgt | "*" tgt))* ","?)?
augmented = "+=" | "-=" | "*=" | "/=" | "//=" | "**=" | "@=" | "<<=" | ">>=" | "&=" | "|=" | "^="
dotted_as = dotted_name ("as" NAME)?
dotted_name = NAME ("." NAME)*
from = "from" (points dotted_name? | dotted_name) "import" ("*" | names | "(" names ","? ")")
points = ("." | "...")+
names = NAME ("as" NAME)? ("," NAME ("as" NAME)?)*

compound = if | while | for | try | with | decorator* "async"? def | decorator* class | match | \
    "async" for | "async" with
if = "if" named ":" block ("elif" named ":" block)* ("else" ":" block)?
while = "while" named ":" block ("else" ":" block)?
for = "for" targets "in" listing ":" block ("else" ":" block)?
try = "try" ":" block except except* ("else" ":" block)? ("finally" ":" block)? | "try" ":" block "finally" ":" block
except = "except" (expression ("as" NAME)?)? ":" block
with = "with" items ":" block
items = "(" with_item ("," with_item)* ","? ")" | with_item ("," with_item)*
with_item = expression ("as" target)?
def = "def" NAME "(" parameters? ")" ("->" expression)? ":" block
class = "class" NAME ("(" class_arguments? ")")? ":" block
decorator = "@" named NEWLINE
match = "match" subject ":" NEWLINE INDENT case case* DEDENT
subject = named | (named | star) "," ((named | star) ("," (named | star))* ","?)?
case = "case" patterns ("if" named)? ":" block

patterns = pattern | (pattern | starred) "," ((pattern | starred) ("," (pattern | starred))* ","?)?
pattern = either ("as" OTHER)?
either = closed ("|" closed)*
closed = literal | NAME | dotted | "(" pattern ")" | "[" ((pattern | starred) ("," (pattern | starred))* ","?)? "]" | \
    "(" ")" | "(" (pattern | starred) "," ((pattern | starred) ("," (pattern | starred))* ","?)? ")" | mapping | \
    class_pattern
starred = "*" NAME
literal = "-"? NUMBER | "-"? REAL ("+" | "-") IMAGINARY | TEXTS+ | OCTETS+ | "None" | "True" | "False"
dotted = OTHER "." NAME ("." NAME)*
key_dotted = NAME "." NAME ("." NAME)*
mapping = "{" "}" | "{" row ("," row)* ("," "**" OTHER)? ","? "}" | "{" "**" OTHER ","? "}"
row = (literal | key_dotted) ":" pattern
class_pattern = (OTHER | dotted) "(" (rows ","?)? ")"
rows = pattern ("," pattern)* | name_row ("," name_row)* | pattern ("," pattern)* "," name_row ("," name_row)*
name_row = NAME "=" pattern

strings = (TEXTS | fstring)+ | OCTETS+
fstring = FSTRING (TEXT | field)* FEND
field = FIELD right ("!" CONVERSION)? (":" (TEXT | inner)*)? "}"
inner = FIELD right ("!" CONVERSION)? "}"
"""


def parameter_rules(name, annotation):
    """Return the rules of parameters, those of a lambda or of a def, with every order of defaults spelled out."""
    own = {
        "P": f"{name}_p", "D": f"{name}_d", "K": f"{name}_k", "S": f"{name}_star", "W": f"{name}_kwarg",
        "T": f"{name}_tail", "N": name, "A": annotation,
    }
    rules = """
P = NAME A
D = NAME A "=" expression
K = P | D
W = "**" NAME A
S = "*" NAME A ("," K)* ("," W)? | "*" ("," K)+ ("," W)?
T = S | W
N = P ("," P)* ("," D)* ("," "/" ("," D)*)? ("," T)? ","? | \
    P ("," P)* "," "/" ("," P)* ("," D)* ("," T)? ","? | \
    D ("," D)* ("," "/" ("," D)*)? ("," T)? ","? | T ","?
"""
    # After a default ahead of the / no parameter behind it is without one.
    return re.sub(r"\b[PDKSWTNA]\b", lambda found: own[found[0]], rules)


RULES += parameter_rules("lambdas", "") + parameter_rules("parameters", "(\":\" expression)?")

SYMBOL = re.compile(r"\"[^\"]+\"|\w+|[()|?*+]")


class Grammar:
    """Plain rules: for each name the list of its ways, each a tuple of names and terminals."""

    def __init__(self, text):
        self.marks = []
        self.rows = []
        self.ways = {}
        for line in text.replace("\\\n", " ").strip().split("\n"):
            if line.strip():
                name, rule = line.split(" = ", 1)
                assert name not in self.ways, name
                self.ways[name] = []
                parts = SYMBOL.findall(rule)
                self.ways[name] += self.choices(parts)
                assert not parts, (name, parts)
        self.empty = set()
        while True:
            more = {name for name, ways in self.ways.items() if any(self.empty >= set(way) for way in ways)}
            if more == self.empty:
                break
            self.empty = more

    def choices(self, parts):
        ways = [self.sequence(parts)]
        while parts and parts[0] == "|":
            parts.pop(0)
            ways.append(self.sequence(parts))
        return ways

    def sequence(self, parts):
        way = []
        while parts and parts[0] not in ("|", ")"):
            part = parts.pop(0)
            if part == "(":
                part = self.new(self.choices(parts))
                assert parts.pop(0) == ")"
            if parts and parts[0] in ("?", "*", "+"):
                mark = parts.pop(0)
                if mark == "?":
                    part = self.new([(), (part,)])
                else:
                    name = self.new([()] if mark == "*" else [(part,)])
                    self.ways[name].append((name, part))
                    part = name
            way.append(part)
        return tuple(way)

    def new(self, ways):
        name = f"_{len(self.ways)}"
        self.ways[name] = ways
        return name

    def first_refused(self, start, tokens):
        """Return the index of the first token with which no text goes on, or None if there is none."""
        marks = [start] + [mark_of(tokens, at) for at in range(len(tokens))]
        # What the last text began with need not be looked at again.
        same = 0
        while same < min(len(self.marks), len(marks)) and self.marks[same] == marks[same]:
            same += 1
        self.marks = self.marks[:same] or [start]
        self.rows = self.rows[:same] or [self.closed({(way, 0, 0, start) for way in self.ways[start]}, 0, [])]
        for at in range(len(self.rows) - 1, len(tokens)):
            kept = {
                (way, dot + 1, origin, name) for way, dot, origin, name in self.rows[at]
                if dot < len(way) and way[dot] not in self.ways and fits(way[dot], tokens, at)
            }
            if not kept:
                return at
            self.rows.append(self.closed(kept, at + 1, self.rows))
            self.marks.append(marks[at + 1])
        return None

    def closed(self, items, at, rows):
        """Add to the items of a place all that begins there, and what goes on behind what ends there."""
        row = set(items)
        todo = list(items)
        rows = rows + [row]

        def add(item):
            if item not in row:
                row.add(item)
                todo.append(item)

        while todo:
            way, dot, origin, name = todo.pop()
            if dot == len(way):
                for other in list(rows[origin]):
                    if other[1] < len(other[0]) and other[0][other[1]] == name:
                        add((other[0], other[1] + 1, other[2], other[3]))
            elif way[dot] in self.ways:
                for more in self.ways[way[dot]]:
                    add((more, 0, at, way[dot]))
                if way[dot] in self.empty:
                    add((way, dot + 1, origin, name))
        return row


def mark_of(tokens, at):
    """Return all that matters of a token."""
    token = tokens[at]
    adjacent = at > 0 and tokens[at - 1].end == token.start
    text = token.text if token.kind == "NAME" else ""
    return token.kind, text, token.octets, isinstance(token.value, Imaginary), adjacent


def fits(terminal, tokens, at):
    """Tell whether a token is one that a terminal of the rules stands for."""
    token = tokens[at]
    if terminal[0] == '"':
        word = terminal[1:-1]
        if word in ("match", "case"):
            return token.kind == "NAME" and token.text == word
        return token.kind == word
    if terminal == "OTHER":
        return token.kind == "NAME" and token.text != "_"
    if terminal in ("REAL", "IMAGINARY"):
        return token.kind == "NUMBER" and isinstance(token.value, Imaginary) == (terminal == "IMAGINARY")
    if terminal in ("TEXTS", "OCTETS"):
        return token.kind == "STRING" and token.octets == (terminal == "OCTETS")
    if terminal == "CONVERSION":
        return token.kind == "NAME" and token.text in ("s", "r", "a") and tokens[at - 1].end == token.start
    return token.kind == terminal


def place_of_error(text, mode="exec"):
    """Return the place at which a text is refused, or None if it is in the language."""
    tokens = Lexer(text).cut()
    faults = [at for at, token in enumerate(tokens) if token.fault is not None]
    if faults:
        tokens = tokens[:faults[0] + 1]
    at = GRAMMAR.first_refused("program" if mode == "exec" else "eval", tokens)
    if at is not None:
        return tokens[at].start
    return tokens[-1].fault


GRAMMAR = Grammar(RULES)


WORDS = {
    "NAME": ["a", "b", "_", "match", "case", "c"], "OTHER": ["a", "b", "match", "case"], "NUMBER": ["1", "0.5", "2j"],
    "REAL": ["1", "2.5"], "IMAGINARY": ["2j"], "TEXTS": ["'a'", '"b"', "r'c'"], "OCTETS": ["b'a'", 'rb"c"'],
    "FSTRING": ["f'"], "FEND": ["'"], "TEXT": ["x", "y z"], "FIELD": ["{"], "CONVERSION": ["s", "r", "a"],
}


class Speaker:
    """Makes random texts of the language, by the same rules."""

    def __init__(self, seed):
        self.chance = random.Random(seed)
        self.least = {}
        changed = True
        while changed:
            changed = False
            for name, ways in GRAMMAR.ways.items():
                for way in ways:
                    if all(part in self.least for part in way if part in GRAMMAR.ways):
                        size = sum(self.size_of(part) for part in way)
                        if size < self.least.get(name, 10 ** 9):
                            self.least[name] = size
                            changed = True

    def size_of(self, part):
        return self.least[part] if part in GRAMMAR.ways else 1

    def words(self, part, room):
        """Return a list of terminals that a rule stands for, of about so many."""
        if part not in GRAMMAR.ways:
            return [part]
        ways = GRAMMAR.ways[part]
        sizes = [sum(self.size_of(item) for item in way) for way in ways]
        fitting = [way for way, size in zip(ways, sizes) if size <= room]
        if not fitting:
            fitting = [ways[sizes.index(min(sizes))]]
        # Ways that cannot become longer would make most texts short.
        weights = [1 + room * any(part in GRAMMAR.ways for part in way) for way in fitting]
        way = self.chance.choices(fitting, weights)[0]
        open_parts = [at for at, item in enumerate(way) if item in GRAMMAR.ways]
        shares = [0] * len(way)
        if open_parts:
            for _ in range(room - sum(self.size_of(item) for item in way)):
                shares[self.chance.choice(open_parts)] += 1
        words = []
        for item, share in zip(way, shares):
            words += self.words(item, self.size_of(item) + share)
        return words

    def text(self, words):
        """Write words as a text, with line feeds and indentations as the words ask for."""
        lines, line, depth = [], "", 0
        quoted = []
        for word in words:
            if word == "NEWLINE":
                lines.append(line)
                line = ""
            elif word in ("INDENT", "DEDENT"):
                depth += 1 if word == "INDENT" else -1
            elif word != "END":
                if not line:
                    line = " " * (2 * depth)
                elif not (quoted and quoted[-1] in ("text", "spec")) and word != "CONVERSION":
                    line += " " * self.chance.choice((1, 1, 0 if not (line[-1] + word[1:2]).isidentifier() else 1))
                line += self.chance.choice(WORDS[word]) if word in WORDS else word.strip('"')
                self.note(quoted, word)
        return "\n".join(lines + [line])

    def note(self, quoted, word):
        """Keep account of what is open: in the texts of f-strings there are no spaces between tokens."""
        within = quoted[-1] if quoted else ""
        if word == "FSTRING":
            quoted.append("text")
        elif word in ("FIELD", '"("', '"["', '"{"'):
            quoted.append("field" if word == "FIELD" else "bracket")
        elif word == '":"' and within == "field":
            quoted.append("spec")
        elif word in ("FEND", '")"', '"]"') and within:
            quoted.pop()
        elif word == '"}"' and within:
            if quoted.pop() == "spec" and quoted:
                quoted.pop()

    def program(self, start, room):
        return self.words(start, room)

    def spoil(self, words):
        """Leave out, put in or exchange a word."""
        words = list(words)
        at = self.chance.randrange(len(words))
        other = self.chance.choice([*words, '"="', '","', '":"', '")"', '"("', '"*"', '"as"', '"for"', "NAME",
            '":="'])
        way = self.chance.randrange(4)
        if way == 0:
            del words[at]
        elif way == 1:
            words.insert(at, other)
        elif way == 2:
            words[at] = other
        else:
            del words[at:]
        return words

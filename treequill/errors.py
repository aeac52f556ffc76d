"""The errors of the package: each keeps the objects that it is made with, as they are."""


class TreeError(ValueError):
    """Stands above all errors of the package."""


class BadKind(TreeError):
    """What should be a kind of nodes is none."""

    def __init__(self, kind):
        self.kind = kind


class BadField(TreeError):
    """A kind has no field of this name, or not as many fields as this number."""

    def __init__(self, kind, name):
        self.kind = kind
        self.name = name


class BadNode(TreeError):
    """What should be a node is none, or one of a kind that does not fit."""


class BadMode(TreeError):
    """A mode of parse is neither "exec" nor "eval"."""

    def __init__(self, mode):
        self.mode = mode


class BadText(TreeError):
    """A text is no program: the place is that of the first token with which none goes on."""

    def __init__(self, lineno, col_offset):
        self.lineno = lineno
        self.col_offset = col_offset


class BadPlace(TreeError):
    """The place of a node is no place of the text."""


class NoText(TreeError):
    """No text has this tree: the path leads to the first node that is to blame."""

    def __init__(self, path):
        self.path = path


class BadChange(TreeError):
    """What should take the place of a node cannot stand in this field of this kind."""

    def __init__(self, kind, name):
        self.kind = kind
        self.name = name


class BadFloat(TreeError):
    """What should be a float, or the text of one, is none."""


class NotLiteral(TreeError):
    """A tree is no literal: the path leads to the first node that is none."""

    def __init__(self, path):
        self.path = path


class BadScope(TreeError):
    """A name breaks the rules of blocks, at the place of this node."""

    def __init__(self, name, lineno, col_offset):
        self.name = name
        self.lineno = lineno
        self.col_offset = col_offset

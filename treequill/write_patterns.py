"""Writes patterns."""

from treequill.literal_text import value_text
from treequill.ranks import ANYTHING, PRIMARY
from treequill.write_expressions import expression_text


def whole_pattern_text(node):
    """Return the text of the pattern of a case, in which a sequence needs no brackets."""
    if node.kind != "MatchSequence" or not node["patterns"]:
        return pattern_text(node)
    text = _patterns_text(node["patterns"])
    return text if len(node["patterns"]) > 1 else text + ","


def pattern_text(node):
    write = WRITERS[node.kind]
    return write(node)


def _patterns_text(patterns):
    return ", ".join([pattern_text(pattern) for pattern in patterns])


def _enclosed_text(node, barred):
    """Return the text of a pattern, in brackets if its kind is barred; a capture alone needs none."""
    text = pattern_text(node)
    capture = node.kind == "MatchAs" and node["pattern"] is None
    return f"({text})" if node.kind in barred and not capture else text


def _match_value(node):
    return expression_text(node["value"], ANYTHING)


def _match_singleton(node):
    return value_text(node["value"])


def _match_sequence(node):
    return f"[{_patterns_text(node['patterns'])}]"


def _match_or(node):
    return " | ".join([_enclosed_text(pattern, ("MatchOr", "MatchAs")) for pattern in node["patterns"]])


def _match_mapping(node):
    rows = [
        f"{expression_text(key, ANYTHING)}: {pattern_text(pattern)}"
        for key, pattern in zip(node["keys"], node["patterns"])
    ]
    if node["rest"] is not None:
        rows.append("**" + node["rest"])
    return "{" + ", ".join(rows) + "}"


def _match_class(node):
    rows = [pattern_text(pattern) for pattern in node["patterns"]]
    rows += [f"{name}={pattern_text(pattern)}" for name, pattern in zip(node["kwd_attrs"], node["kwd_patterns"])]
    return f"{expression_text(node['cls'], PRIMARY)}({', '.join(rows)})"


def _match_star(node):
    return "*" + (node["name"] or "_")


def _match_as(node):
    if node["pattern"] is None:
        return node["name"] or "_"
    return f"{_enclosed_text(node['pattern'], ('MatchAs',))} as {node['name']}"


WRITERS = {
    "MatchValue": _match_value,
    "MatchSingleton": _match_singleton,
    "MatchSequence": _match_sequence,
    "MatchOr": _match_or,
    "MatchMapping": _match_mapping,
    "MatchClass": _match_class,
    "MatchStar": _match_star,
    "MatchAs": _match_as,
}

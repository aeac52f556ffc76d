"""The blocks that names lead to, and the words that tell how they are bound."""


def leads_to(block, name):
    """Return the function or comprehension around a block that a name in it leads to, or None for the module."""
    around = block.above
    while around is not None and around.kind != "module":
        if around.kind != "class":
            if name in around.declared["Global"]:
                return None
            if name in around.bound and name not in around.declared["Nonlocal"]:
                return around
        around = around.above
    return None


def word_for(block, name):
    """Return the word for a name of a block."""
    if block.kind == "module" or name in block.declared["Global"]:
        return "global"
    if name in block.declared["Nonlocal"]:
        return "free"
    if name in block.bound:
        return "cell" if name in block.cells else "local"
    return "global" if leads_to(block, name) is None else "free"


def note_free_names(blocks):
    """Note for each name that is free in a block where it leads to, and the blocks that it passes on its way."""
    for block in blocks:
        for name in block.names_in_it():
            if word_for(block, name) == "free":
                _note_way(block, name, leads_to(block, name))


def _note_way(block, name, home):
    home.cells[name] = True
    around = block.above
    while around != home:
        around.passing[name] = True
        around = around.above

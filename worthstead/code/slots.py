"""The names that statements of one place put."""

from worthstead.lang.trees import trees_in


def names_put(statements):
    """The names that statements put in the place in which they stand, in the order of the text, each once."""
    names = {}
    for statement in statements:
        note_names(statement, names)
    return list(names)


def note_names(node, names):
    """Note the names that a statement, or those in a tree, put in the place in which it stands."""
    if node[0] == "set":
        names[node[1]] = True
    for part in parts_in_place(node):
        note_names(part, names)


def parts_in_place(node):
    """The statements and trees in a node that run in the same place."""
    if node[0] == "block":
        return list(node[1])
    if node[0] == "fun":
        return []
    # The second tree of these runs in a new place.
    return [node[1]] if node[0] == "with" else trees_in(node)


def slots_of_body(params, tree):
    """The slots of the body of a function, the parameters first."""
    names = [name for name, _ in params]
    put = names_put([default for _, default in params if default is not None] + [tree])
    return tuple(names + [name for name in put if name not in names])

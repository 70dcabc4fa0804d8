"""The tree by which many filters are tried at once.

It is a plain value, and the same filters give the same tree, in whatever order they came.
"""

EMPTY = ((), ())


def with_filter(tree, name, tests):
    """The tree with one filter more."""
    names = _names_behind(tree, tests)
    return _with_names_behind(tree, tests, tuple(sorted([*names, name])))


def without_filter(tree, name, tests):
    """The tree without the filter, and without the nodes and branches that only led to it."""
    names = _names_behind(tree, tests)
    return _with_names_behind(tree, tests, tuple([other for other in names if other != name]))


def found(tree, packet):
    """The list of the names of the filters that the packet meets, ascending."""
    return sorted(_names_met(tree, packet))


def tree_of(filters):
    """The tree of a dict from names to filters."""
    tree = EMPTY
    for name, tests in filters.items():
        tree = with_filter(tree, name, tests)
    return tree


def _names_met(tree, packet):
    names, branches = tree
    met = list(names)
    for index, mask, children in branches:
        met.extend(_names_met(_child(children, packet[index] & mask), packet))
    return met


def _names_behind(tree, tests):
    """The names that end behind the tests."""
    node = tree
    for index, mask, value in tests:
        node = _child(_children(node[1], index, mask), value)
    return node[0]


def _with_names_behind(tree, tests, names):
    """The tree in which just these names end behind the tests."""
    if not tests:
        return (names, tree[1])
    index, mask, value = tests[0]
    children = _children(tree[1], index, mask)
    node = _with_names_behind(_child(children, value), tests[1:], names)
    return (tree[0], _with_branch(tree[1], index, mask, _with_child(children, value, node)))


def _children(branches, index, mask):
    for row in branches:
        if row[0] == index and row[1] == mask:
            return row[2]
    return ()


def _child(children, value):
    for row in children:
        if row[0] == value:
            return row[1]
    return EMPTY


def _with_branch(branches, index, mask, children):
    rows = [row for row in branches if row[0] != index or row[1] != mask]
    if children:
        rows.append((index, mask, children))
    return tuple(sorted(rows))


def _with_child(children, value, node):
    rows = [row for row in children if row[0] != value]
    if node != EMPTY:
        rows.append((value, node))
    return tuple(sorted(rows))

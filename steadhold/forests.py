"""How forests grow: from their first blocks on, each block brings those that it owns by its words."""


def grown(starts, table, types, elder):
    """The forest of the starts, tuples (block, type or None), by a table from blocks to words, and its first fault.

    The forest is a dict from blocks to tuples (owner, type), breadth first; a block without a type owns nothing.
    The fault is a tuple (word, block), or None; with a fault the forest is what had grown before it. The elder
    blocks, a dict, count as if their turn had come before.
    """
    forest = {}
    ahead = [(block, None, kind) for block, kind in starts]
    at = 0
    while at < len(ahead):
        block, owner, kind = ahead[at]
        at += 1
        if block in forest or block in elder:
            return (forest, ("twice", block))
        owned = () if kind is None else types.owned(kind, table[block])
        if owned is None:
            return (forest, ("ill", block))
        forest[block] = (owner, kind)
        ahead.extend([(other, block, told) for other, told in owned])
    return (forest, None)

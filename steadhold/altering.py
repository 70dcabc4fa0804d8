"""Altering: whether blocks may get new words, told from what they own by the present and by the new ones."""


def refusal(present, planned, forest, reserved):
    """The word with which an altering is refused, or None.

    present and planned are dicts from the altered blocks to what they own by their present and their new words,
    tuples of tuples (block, type), planned also None where the words are ill. forest is the memory forest, reserved
    the dict from the environment's reserved blocks to their types.
    """
    if any([owned is None for owned in planned.values()]):
        return "ill"
    before = dict(all_pairs(present))
    pairs = all_pairs(planned)
    behind = dict(pairs)
    if len(behind) < len(pairs):
        return "twice"
    if any([before.get(block, kind) != kind for block, kind in pairs]):
        return "types"
    if not _may_come(_coming(present, planned), _with_owners(list(present), forest), before, reserved):
        return "takes"
    going = [block for block in before if block not in behind]
    if any([block in present or _owns_something(block, forest) for block in going]):
        return "gives"
    return None


def all_pairs(table):
    """The list of all tuples (block, type) in a dict from blocks to what they own."""
    return [pair for owned in table.values() for pair in owned]


def _coming(present, planned):
    """The tuples (block, type) that an altered block owns by its new words and not by its present ones."""
    coming = []
    for block, owned in planned.items():
        old = [other for other, _ in present[block]]
        coming.extend([pair for pair in owned if pair[0] not in old])
    return coming


def _with_owners(blocks, forest):
    """The dict of True of the blocks, their owners, the owners of these, and so on."""
    above = {}
    for block in blocks:
        at = block
        while at is not None and at not in above:
            above[at] = True
            at = forest[at][0]
    return above


def _may_come(coming, above, before, reserved):
    """True if no block comes in that would stand below itself, and each one was here before or is reserved."""
    for block, kind in coming:
        if block in above:
            return False
        if block not in before and reserved.get(block) != kind:
            return False
    return True


def _owns_something(block, forest):
    return any([owner == block for owner, _ in forest.values()])

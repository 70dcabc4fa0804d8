"""Checks of what lasts, by the words of all blocks and the types alone."""

from steadhold.afiles import tree_at
from steadhold.bfiles import stream_of
from steadhold.forests import grown
from steadhold.owning import ROOT, ROOT_BLOCKS
from steadhold.segments import tree_of
from steadhold.slices import ENVIRONMENTS
from steadhold.trees import new_tree


def forests(image, types):
    """The tuple ("ok", list of the four lasting forests), or (word, block) for the first fault."""
    found = []
    elder = {}
    for environment in range(ENVIRONMENTS):
        forest, fault = grown([(environment, ROOT)], image, types, elder)
        if fault is not None:
            return fault
        found.append(forest)
        elder.update({block: True for block in forest})
    return ("ok", found)


def tree_of_a(image, environment):
    """The tree of library A that the root block leads to."""
    first = image[environment][0]
    return new_tree() if first == 0 else tree_at(image, first)


def tree_of_b(image, environment):
    """The tree of library B that the root block leads to."""
    return tree_of(stream_of(image, image[environment][0]))


def unreached(image, types):
    """The list of the blocks that are not root blocks and in no forest, ascending."""
    reached = [block for forest in forests(image, types)[1] for block in forest]
    return [block for block in range(ROOT_BLOCKS, len(image)) if block not in reached]

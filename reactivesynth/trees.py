"""Trees of state sets, which tell what all runs of a Buchi automaton have done so far.

They follow the constructions of Safra and Piterman. A tree is a tuple of
nodes, older nodes first. A node is a pair of the number of its parent (-1 for
the root) and its label, a set of states, in which state k has the weight 2 to
the power k. The children of a node hold different states, and together fewer
than their parent: those whose runs have been in accepting states since the
children of the node last held all of its states.
"""

from reactivesynth.masks import numbers_of


def moved(mask, images):
    """Return the successors of the states of a label, where images has a label for each state."""
    after = 0
    for state in numbers_of(mask):
        after = after | images[state]
    return after


def next_tree(tree, images, accepting):
    """Return the tree after a letter, and what happened to the old nodes.

    That is a pair (node, flashed) for the oldest node that flashed (its
    children came to hold all of its states) or vanished, or (-1, False) if
    none did. A node that flashes again and again without vanishing shows that
    some run is in accepting states again and again.
    """
    parents = [parent for parent, _ in tree]
    labels = [moved(label, images) for _, label in tree]
    for node in range(len(tree)):
        parents.append(node)
        labels.append(labels[node] & accepting)
    kept, held = claims(parents, labels)
    stays, flashes = survivors(parents, kept, held)
    return packed(parents, kept, stays), event(stays, flashes, len(tree))


def claims(parents, labels):
    """Return the labels without the states that an older child of the same parent holds.

    Returns the states that the children of each node hold, too.
    """
    kept = []
    held = [0] * len(labels)
    for node, parent in enumerate(parents):
        label = labels[node]
        if parent >= 0:
            label = label & kept[parent] & ~held[parent]
            held[parent] = held[parent] | label
        kept.append(label)
    return kept, held


def survivors(parents, kept, held):
    """Return for each node whether it stays, and whether it flashes and so loses all that is below it."""
    stays = []
    flashes = []
    for node, parent in enumerate(parents):
        lost = parent >= 0 and (flashes[parent] or not stays[parent])
        stays.append(kept[node] > 0 and not lost)
        flashes.append(stays[node] and held[node] == kept[node])
    return stays, flashes


def event(stays, flashes, count):
    """Return the oldest of the first count nodes that flashed or vanished, and whether it flashed."""
    for node in range(count):
        if flashes[node] or not stays[node]:
            return node, flashes[node]
    return -1, False


def packed(parents, labels, stays):
    """Return the tree of the nodes that stay, which keep their order of age."""
    numbers = {-1: -1}
    nodes = []
    for node, parent in enumerate(parents):
        if stays[node]:
            numbers[node] = len(nodes)
            nodes.append((numbers[parent], labels[node]))
    return tuple(nodes)

"""Walks along edges.

A set of nodes is one whole number, a mask: the node n is in it if the bit n is 1.
`needs` is a list of masks: needs[a] holds the nodes that a needs.
"""


def members(mask):
    """The numbers of the nodes in a mask, in order of size."""
    return [number for number in range(mask.bit_length()) if mask >> number & 1 == 1]


def mask_of(numbers):
    mask = 0
    for number in numbers:
        mask = mask | 1 << number
    return mask


def smallest(mask):
    """The node with the smallest number in a mask that isn't empty."""
    return members(mask)[0]


def next_nodes(needs, mask):
    """The nodes that some node of the mask needs."""
    found = 0
    for number in members(mask):
        found = found | needs[number]
    return found


def turned(needs):
    """The same edges, each from its end to its beginning."""
    back = [0 for row in needs]
    for number, row in enumerate(needs):
        for needed in members(row):
            back[needed] = back[needed] | 1 << number
    return back


def reached(needs, mask, limit):
    """The nodes that are reached from the mask; within limit, unless that is None."""
    length = 0
    while limit is None or length < limit:
        wider = mask | next_nodes(needs, mask)
        if wider == mask:
            break
        mask = wider
        length += 1
    return mask


def layers_before(needs, start, goal):
    """Masks of the nodes 0, 1, 2 .. steps ahead of goal, up to the first with a node of start.

    Empty, if no node of start leads to goal.
    """
    back = turned(needs)
    layers = []
    seen = 0
    layer = goal
    while layer != 0:
        layers.append(layer)
        if layer & start != 0:
            return layers
        seen = seen | layer
        layer = next_nodes(back, layer) & ~seen
    return []


def chosen_path(needs, start, goal):
    """The nodes of the chosen path from start to goal, in its order; none, if there is none."""
    path = []
    allowed = start
    # Each step goes one layer nearer to goal, so taking the smallest node each time
    # still gives a shortest path, and the first one in order among these.
    for layer in reversed(layers_before(needs, start, goal)):
        number = smallest(allowed & layer)
        path.append(number)
        allowed = needs[number]
    return path

"""What a query means: a mask of nodes (see walks)."""

from buildqueries.tree import Let, Quoted, Sum, Variable
from buildqueries.walks import chosen_path, mask_of, members, reached, smallest, turned


def holds(row, part):
    """Whether part stands somewhere in row."""
    last = len(row) - len(part)
    return any([row[start:start + len(part)] == part for start in range(last + 1)])


def fits(node, word, texts):
    """Whether kind, filter or mark with these texts keeps the node."""
    if word == "kind":
        return node.kind == texts[0]
    if word == "filter":
        return holds(node.name, texts[0])
    return node.marks.get(texts[0]) == texts[1]


def leaves(needs, mask):
    """The nodes of the mask that need none of it but maybe themselves."""
    return mask_of([number for number in members(mask) if needs[number] & mask & ~(1 << number) == 0])


def between(needs, start, goal, limit):
    """What is reached from start, and from which goal is reached, within limit unless that is None."""
    return reached(needs, start, None) & reached(turned(needs), goal, limit)


def call_meaning(graph, call, masks):
    """What a call means whose parts mean these masks."""
    if call.word == "all":
        return (1 << len(graph.nodes)) - 1
    needs = graph.needs
    mask = masks[0]
    if call.word == "deps":
        return reached(needs, mask, call.limit)
    if call.word in ("needers", "allpaths"):
        return between(needs, mask, masks[1], call.limit)
    if call.word == "somepath":
        return mask_of(chosen_path(needs, mask, masks[1]))
    if call.word == "leaves":
        return leaves(needs, mask)
    if call.word == "roots":
        return leaves(turned(needs), mask)
    if call.word == "first":
        return 0 if mask == 0 else 1 << smallest(mask)
    return mask_of([number for number in members(mask) if fits(graph.nodes[number], call.word, call.texts)])


def joined(sign, left, right):
    if sign == "+":
        return left | right
    if sign == "-":
        return left & ~right
    return left & right


def sum_meaning(graph, tree, given):
    mask = meaning(graph, tree.first, given)
    for sign, term in tree.steps:
        mask = joined(sign, mask, meaning(graph, term, given))
    return mask


def let_meaning(graph, tree, given):
    inner = dict(given)
    inner[tree.name] = meaning(graph, tree.given, given)
    return meaning(graph, tree.body, inner)


def meaning(graph, tree, given):
    """The mask of what the tree means, where given holds the masks of the known variables."""
    if isinstance(tree, Let):
        return let_meaning(graph, tree, given)
    if isinstance(tree, Sum):
        return sum_meaning(graph, tree, given)
    if isinstance(tree, Quoted):
        return 1 << graph.number_of(tree.text)
    if isinstance(tree, Variable):
        return given[tree.name]
    return call_meaning(graph, tree, [meaning(graph, part, given) for part in tree.parts])

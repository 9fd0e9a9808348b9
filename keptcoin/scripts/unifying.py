"""The most general solution of equations between kinds."""

from keptcoin.errors import NoKind
from keptcoin.scripts.kinds import MOST_SIZE, inner_kinds, kind_size


class Nodes:
    """Kinds that are taken apart into nodes. A node may stand for others that are equal to it."""

    def __init__(self):
        # For each node another one that stands for it, or the node itself.
        self.above = []
        # For each node its form and the nodes in it; an unknown has the form "any" and none.
        self.shapes = []
        # For the number of each unknown its node.
        self.unknown_nodes = {}

    def node_of(self, kind):
        """The node of a kind: always the same one for an unknown, a new one for other kinds."""
        if kind[0] == "any" and kind[1] in self.unknown_nodes:
            return self.unknown_nodes[kind[1]]
        shape = (kind[0], [self.node_of(inner) for inner in inner_kinds(kind)])
        node = len(self.above)
        self.above.append(node)
        self.shapes.append(shape)
        if kind[0] == "any":
            self.unknown_nodes[kind[1]] = node
        return node

    def top(self, node):
        """The node that stands for a node in the end."""
        while self.above[node] != node:
            # Shortening the way keeps later searches quick.
            self.above[node] = self.above[self.above[node]]
            node = self.above[node]
        return node

    def make_equal(self, pairs):
        """Makes the nodes of each pair equal, and so the nodes in them."""
        waiting = list(pairs)
        while waiting:
            left, right = waiting.pop()
            left, right = self.top(left), self.top(right)
            if left == right:
                continue
            if self.shapes[right][0] == "any":
                left, right = right, left
            self.above[left] = right
            form, inner = self.shapes[left]
            if form == "any":
                continue
            if form != self.shapes[right][0]:
                raise NoKind(None)
            waiting.extend(list(zip(inner, self.shapes[right][1])))


def unify(pairs):
    """The most general solution of a list of pairs of kinds. Raises NoKind(None) if there is none."""
    nodes = Nodes()
    joined = [(nodes.node_of(left), nodes.node_of(right)) for left, right in pairs]
    nodes.make_equal(joined)
    kinds = _least_unknowns(nodes)
    for left, right in joined:
        _find_kind(nodes, left, kinds, 1)
    solution = {}
    for number, node in nodes.unknown_nodes.items():
        kind = kinds[nodes.top(node)]
        if kind != ("any", number):
            solution[number] = kind
    return solution


def _least_unknowns(nodes):
    """For each top node that is an unknown, the unknown with the least number that it stands for."""
    kinds = {}
    for number in sorted(nodes.unknown_nodes):
        top = nodes.top(nodes.unknown_nodes[number])
        if nodes.shapes[top][0] == "any":
            kinds.setdefault(top, ("any", number))
    return kinds


def _find_kind(nodes, node, kinds, deep):
    """The kind of a node, which stands so deep. The kinds of top nodes are kept in a dict."""
    # A kind that is too deep is too large, and one that is within itself is too deep.
    if deep > MOST_SIZE:
        raise NoKind(None)
    top = nodes.top(node)
    if top not in kinds:
        form, inner = nodes.shapes[top]
        kind = (form, *[_find_kind(nodes, other, kinds, deep + 1) for other in inner])
        if kind_size(kind) > MOST_SIZE:
            raise NoKind(None)
        kinds[top] = kind
    return kinds[top]

"""Sets of nodes, and what orders make of the nodes of an arena.

A set of nodes is an integer; its bit n, which is worth 2 ** n, tells whether node n belongs to it.
"""


def set_of(flags):
    """The set of the nodes at whose numbers a list has True."""
    nodes = 0
    for node, flag in enumerate(flags):
        if flag:
            nodes += 1 << node
    return nodes


def has(nodes, node):
    """Whether a node belongs to a set of nodes."""
    return (nodes >> node) & 1 == 1


class Ground:
    """The nodes of an arena under some orders: where they lead, and which are bad, meet goals or keep promises."""

    def __init__(self, nodes, orders):
        self.mine = [node["mine"] for node in nodes]
        # For each node the nodes to which its moves lead: move by move, and as a set.
        self.after = [[move[2] for move in node["moves"]] for node in nodes]
        self.ways = [set_of([node in after for node in range(len(nodes))]) for after in self.after]
        self.everywhere = set_of([True for _ in nodes])
        self.goals = self._sets(nodes, orders["again"])
        self.promises = self._sets(nodes, orders["promises"])
        self.bad = set_of([node["stuck"] for node in nodes])
        for question in orders["never"]:
            self.bad = self.bad | self._answering(nodes, question)

    def _sets(self, nodes, questions):
        """For each goal, or each promise, the set of the nodes where it is met, or kept."""
        if len(questions) == 0:
            return [self.everywhere]
        return [self._answering(nodes, question) for question in questions]

    def _answering(self, nodes, question):
        """The set of the nodes where a question answers."""
        return set_of([node["answers"][question] for node in nodes])

"""Which nodes of a graph of moves cannot be told apart.

The nodes are numbered. Each of them tells something at once, and each of the inputs leads it to a node or to None.
"""


class Splitting:
    """Nodes in classes, which are split as long as one of them leads into another one with a part of its nodes.

    Of the two parts of a class that is split it is enough to look at what leads into the smaller one: what leads into
    the whole class has been looked at, or still waits. So there are few looks, also at long chains of nodes.
    """

    def __init__(self, told, leads):
        self._members = []
        self.class_of = []
        self._gather(told)
        self._befores = befores_of(leads)
        self._waiting = list(range(len(self._members)))
        while self._waiting:
            self._split_by(self._members[self._waiting.pop()])

    def _gather(self, told):
        """The first classes: the nodes that tell the same at once."""
        numbers = {}
        for node, words in enumerate(told):
            if words not in numbers:
                numbers[words] = len(self._members)
                self._members.append([])
            self._members[numbers[words]].append(node)
            self.class_of.append(numbers[words])

    def _split_by(self, nodes):
        """Split each class of which an input leads only some nodes to one of these."""
        for before in self._befores:
            leading = {}
            for node in nodes:
                for other in before.get(node, ()):
                    leading.setdefault(self.class_of[other], []).append(other)
            for number in leading:
                if len(leading[number]) < len(self._members[number]):
                    self._split(number, leading[number])

    def _split(self, number, part):
        in_part = {node: True for node in part}
        rest = [node for node in self._members[number] if node not in in_part]
        # The larger part keeps the number of the class, so that it waits if the class did.
        small, large = (part, rest) if len(part) < len(rest) else (rest, part)
        fresh = len(self._members)
        self._members[number] = large
        self._members.append(small)
        for node in small:
            self.class_of[node] = fresh
        self._waiting.append(fresh)


def befores_of(leads):
    """For each input a dict from each node to the list of the nodes that this input leads there."""
    befores = [{} for _ in leads[0]]
    for node, followers in enumerate(leads):
        for index, follower in enumerate(followers):
            if follower is not None:
                befores[index].setdefault(follower, []).append(node)
    return befores


def classes_of(told, leads):
    """The list of the numbers of the classes of all nodes.

    Two nodes have the same number just if they, and all nodes to which the same inputs lead from both, tell the same.
    """
    return Splitting(told, leads).class_of

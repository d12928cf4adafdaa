"""The parts of a graph whose nodes lead to one another, and how parts are numbered."""


def numbered(marks):
    """Numbers in place of marks: from 0, in the order in which the marks first stand there."""
    numbers = {}
    for mark in marks:
        if mark not in numbers:
            numbers[mark] = len(numbers)
    return [numbers[mark] for mark in marks]


class Walk:
    def __init__(self, graph):
        self.graph = graph
        self.met = [None] * len(graph)
        self.count = 0
        self.head = [None] * len(graph)
        # The nodes from the first one to where the walk stands, and of each the ways not gone yet.
        self.trail = []
        self.ways = []
        # Nodes whose part is not whole yet, as they were met; heads are the first ones of their parts.
        self.waiting = []
        self.heads = []

    def enter(self, node):
        self.met[node] = self.count
        self.count += 1
        self.trail.append(node)
        self.ways.append(list(self.graph[node]))
        self.waiting.append(node)
        self.heads.append(node)

    # The walk came from this node to where it stands and is led back: all parts between are one.
    def join_back_to(self, node):
        while self.met[self.heads[-1]] > self.met[node]:
            self.heads.pop()

    def leave(self):
        node = self.trail.pop()
        self.ways.pop()
        if self.heads[-1] == node:
            self.heads.pop()
            self.end_part(node)

    def end_part(self, head):
        member = None
        while member != head:
            member = self.waiting.pop()
            self.head[member] = head
            # Later than all others: a way to a part that has ended joins nothing.
            self.met[member] = len(self.graph)


def parts(graph):
    """Of each node its part's number, in a graph where node 0 leads to every node."""
    walk = Walk(graph)
    walk.enter(0)
    while walk.trail:
        ways = walk.ways[-1]
        if not ways:
            walk.leave()
            continue
        node = ways.pop()
        if walk.met[node] is None:
            walk.enter(node)
        else:
            walk.join_back_to(node)
    return numbered(walk.head)

"""Directed graphs: row k of a graph lists the nodes to which an edge leads from node k."""


def explore(starts, step):
    """Return all nodes that can be reached from starts, and their graph.

    step(node) lists the nodes after a node. The nodes are numbered in the
    order in which they are first reached, row by row.
    """
    numbers = {}
    nodes = []
    for start in starts:
        if start not in numbers:
            numbers[start] = len(nodes)
            nodes.append(start)
    rows = []
    while len(rows) < len(nodes):
        row = []
        for node in step(nodes[len(rows)]):
            if node not in numbers:
                numbers[node] = len(nodes)
                nodes.append(node)
            row.append(numbers[node])
        rows.append(row)
    return nodes, rows


def reachable(graph, starts):
    """Return for each node whether it can be reached from starts."""
    found = [False] * len(graph)
    waiting = list(starts)
    for start in starts:
        found[start] = True
    while len(waiting) > 0:
        for node in graph[waiting.pop()]:
            if not found[node]:
                found[node] = True
                waiting.append(node)
    return found


def reversed_graph(graph):
    """Return the graph with each edge turned round."""
    turned = [[] for _ in graph]
    for node, row in enumerate(graph):
        for target in row:
            turned[target].append(node)
    return turned


def finishing_order(graph):
    """Return the nodes in the order in which a depth-first search leaves them."""
    order = []
    found = [False] * len(graph)
    for start in range(len(graph)):
        if found[start]:
            continue
        found[start] = True
        # A stack of nodes and of how many of their edges have been followed,
        # since a recursion would be as deep as the longest path.
        path = [(start, 0)]
        while len(path) > 0:
            node, followed = path.pop()
            if followed == len(graph[node]):
                order.append(node)
                continue
            path.append((node, followed + 1))
            target = graph[node][followed]
            if not found[target]:
                found[target] = True
                path.append((target, 0))
    return order


def components(graph):
    """Return for each node the number of its strongly connected component.

    Edges lead from a component to itself and to components with greater numbers.
    """
    turned = reversed_graph(graph)
    homes = [-1] * len(graph)
    count = 0
    for start in finishing_order(graph)[::-1]:
        if homes[start] >= 0:
            continue
        homes[start] = count
        waiting = [start]
        while len(waiting) > 0:
            for node in turned[waiting.pop()]:
                if homes[node] < 0:
                    homes[node] = count
                    waiting.append(node)
        count += 1
    return homes


def on_cycles(graph):
    """Return for each node whether a cycle goes through it."""
    homes = components(graph)
    cyclic = [False] * len(graph)
    for node, row in enumerate(graph):
        for target in row:
            if homes[target] == homes[node]:
                cyclic[homes[node]] = True
    return [cyclic[home] for home in homes]


def part_of(graph, nodes):
    """Return the graph of some nodes alone, which get their places in the list as numbers."""
    numbers = {node: at for at, node in enumerate(nodes)}
    return [[numbers[target] for target in graph[node] if target in numbers] for node in nodes]


def component_lists(graph, nodes):
    """Return the components of the graph of some nodes alone, each as a list of nodes.

    No edge leads from a component to one that stands before it.
    """
    homes = components(part_of(graph, nodes))
    groups = [[] for _ in range(max(homes, default=-1) + 1)]
    for node, home in zip(nodes, homes):
        groups[home].append(node)
    return groups

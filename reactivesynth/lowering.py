"""Lower priorities for a graph whose edges have priorities.

An edge is a tuple (source, target, priority). An endless path is good if the
greatest priority that occurs on it again and again is even. This module
gives the edges lower priorities with the same good paths, after Carton and
Maceiras.
"""

from reactivesynth.graphs import components


def lowered(edges):
    """Return a dict with a lower priority for each edge that lies on a cycle."""
    table = {}
    for highest in sorted(set([edge[2] for edge in edges])):
        for group in cyclic_groups([edge for edge in edges if edge[2] <= highest]):
            # An edge without a priority yet lies only on cycles through an edge of the
            # highest one. It gets the least of that parity that no other edge exceeds.
            least = max([table.get(edge, highest % 2) for edge in group])
            if least % 2 != highest % 2:
                least += 1
            for edge in group:
                table.setdefault(edge, least)
    return table


def cyclic_groups(edges):
    """Return the edges that lie on cycles, one list for each component of the graph."""
    numbers = {}
    for source, target, _ in edges:
        numbers.setdefault(source, len(numbers))
        numbers.setdefault(target, len(numbers))
    graph = [[] for _ in numbers]
    for source, target, _ in edges:
        graph[numbers[source]].append(numbers[target])
    homes = components(graph)
    groups = {}
    for edge in edges:
        home = homes[numbers[edge[0]]]
        if home == homes[numbers[edge[1]]]:
            groups.setdefault(home, []).append(edge)
    return list(groups.values())

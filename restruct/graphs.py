"""Graphs: the order of their labels, dominators, loops, and what makes them not reducible.

A graph is a pair of the entry and a dict from the labels of nodes to the tuples of their targets.
"""

from restruct.signs import EXIT


def order_of(graph):
    """The tuple of the reachable labels, in order."""
    finished, _ = _search(graph)
    return tuple(finished[::-1])


def edges_of(graph):
    """The list of the edges (source, target) between reachable nodes, by their sources in order."""
    _, targets = graph
    return [(source, target) for source in order_of(graph) for target in targets[source] if target != EXIT]


def strict_dominators(graph):
    """A dict from each reachable label, in order, to the tuple of its strict dominators, in order."""
    order = order_of(graph)
    without = {barred: _found_without(graph, barred) for barred in order}
    dominators = {}
    for label in order:
        dominators[label] = tuple([other for other in order if other != label and label not in without[other]])
    return dominators


def retreating_edges(graph):
    """The list of the edges whose targets do not stand behind their sources in order."""
    places = {label: place for place, label in enumerate(order_of(graph))}
    return [(source, target) for source, target in edges_of(graph) if places[target] <= places[source]]


def loops_of(graph):
    """A dict from each loop header, in order, to the tuple of the labels of its loop, in order."""
    order = order_of(graph)
    edges = edges_of(graph)
    retreating = retreating_edges(graph)
    loops = {}
    for header in order:
        sources = [source for source, target in retreating if target == header]
        if sources:
            members = _leading_to(sources, header, edges)
            loops[header] = tuple([label for label in order if label in members])
    return loops


def is_reducible(graph):
    """Tells whether the target of every retreating edge dominates its source."""
    return witness_of(graph) is None


def witness_of(graph):
    """The tuple (header, cycle, path, other) that shows that a graph is not reducible, or None if it is."""
    dominators = strict_dominators(graph)
    for source, header in retreating_edges(graph):
        if header != source and header not in dominators[source]:
            return _witness_for(graph, source, header)
    return None


def _witness_for(graph, source, header):
    """The witness of a retreating edge whose target, the header, does not dominate its source."""
    _, ahead = _search(graph)
    # A retreating edge leads back to a node on the path by which the search found its source.
    path = _path_to(source, ahead)
    place = path.index(header)
    other = _path_to(source, _found_without(graph, header))
    return header, path[place:], path[:place + 1], other


def _search(graph):
    """The list of the reachable labels as they are finished, the last one at the end, and how they are found.

    The latter is a dict from each label to the one ahead of it on the path by which the search
    found it, None for the entry.
    """
    entry, targets = graph
    ahead = {}
    finished = []
    waiting = [(entry, None, False)]
    while waiting:
        label, source, is_searched = waiting.pop()
        if is_searched:
            finished.append(label)
        elif label != EXIT and label not in ahead:
            ahead[label] = source
            waiting.append((label, source, True))
            # What is put here last is searched first: the else-target.
            waiting.extend([(target, label, False) for target in targets[label]])
    return finished, ahead


def _found_without(graph, barred):
    """How labels are found without passing through the barred one.

    This is a dict from each label to the one ahead of it on a shortest path from the entry, of
    several on the one that has the then-target where they first differ; None for the entry.
    """
    entry, targets = graph
    ahead = {}
    waiting = [(entry, None)]
    while waiting:
        further = []
        # A copy is walked: behind the loop, the list that it extends takes the name of the walked one.
        for label, source in list(waiting):
            if label not in (EXIT, barred) and label not in ahead:
                ahead[label] = source
                further.extend([(target, label) for target in targets[label]])
        waiting = further
    return ahead


def _path_to(label, ahead):
    """The path to a label, by a dict from labels to the ones ahead of them, None ahead of the first one."""
    path = []
    at = label
    while at is not None:
        path.append(at)
        at = ahead[at]
    return tuple(path[::-1])


def _leading_to(sources, header, edges):
    """The header and the labels from which paths without it lead to sources, as a dict of True."""
    members = {header: True}
    waiting = list(sources)
    while waiting:
        label = waiting.pop()
        if label not in members:
            members[label] = True
            waiting.extend([source for source, target in edges if target == label])
    return members

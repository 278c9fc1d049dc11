"""Splitting: duplicating nodes of a program until it is reducible.

A region is a pair of a dict of True by labels, in order, and of a header among them or None. A
state is a pair (label, headers).
"""

from restruct.errors import TooMany
from restruct.graphs import edges_of, order_of
from restruct.programs import normalized
from restruct.signs import EXIT

MOST_STATES = 60
LEAST_NUMBER = 2


def split(program):
    """The pair of the split program and the tuple of the pairs (label, original label) of its nodes."""
    states = _states_of(program.graph())
    labels = _labels_of(states, program)
    nodes = []
    for state, behind in states.items():
        _, deed, _ = program.node(state[0])
        nodes.append((labels[state], deed, tuple([_label_or_exit(other, labels) for other in behind])))
    origins = tuple([(labels[state], state[0]) for state in states])
    # The state of the entry, if there is one, is the first of its label.
    return normalized(program.entry, nodes), origins


def _label_or_exit(state, labels):
    return EXIT if state is None else labels[state]


def _states_of(graph):
    """A dict from the states, in depth-first order, to the lists of those of their targets, None for the exit."""
    entry, targets = graph
    edges = edges_of(graph)
    whole = ({label: True for label in order_of(graph)}, None)
    states = {}
    waiting = [_state_behind((), entry, whole, edges)]
    while waiting:
        state = waiting.pop()
        if state is not None and state not in states:
            if len(states) == MOST_STATES:
                raise TooMany(f"splitting leads to more than {MOST_STATES} states")
            label, headers = state
            behind = [_state_behind(headers, target, whole, edges) for target in targets[label]]
            states[state] = behind
            # What is put here last is looked at first: the then-target.
            waiting.extend(behind[::-1])
    return states


def _state_behind(headers, target, whole, edges):
    """The state to which an edge leads from a state with some headers, or None if it leads to the exit."""
    if target == EXIT:
        return None
    kept = ()
    region = whole
    for header in headers:
        component = _component_of(header, region, edges)
        if target not in component:
            break
        kept = (*kept, header)
        if target == header:
            return target, kept
        region = (component, header)
    if target in _component_of(target, region, edges):
        kept = (*kept, target)
    return target, kept


def _component_of(label, region, edges):
    """The component of a label in a region, as a dict of True in order."""
    labels, header = region
    within = [(one, other) for one, other in edges if one in labels and other in labels and other != header]
    behind = _found_along(within, label)
    ahead = _found_along([(other, one) for one, other in within], label)
    return {other: True for other in labels if other in behind and other in ahead}


def _found_along(edges, start):
    """The labels to which at least one of the edges leads from a start, as a dict of True."""
    found = {}
    waiting = [start]
    while waiting:
        label = waiting.pop()
        for one, other in edges:
            if one == label and other not in found:
                found[other] = True
                waiting.append(other)
    return found


def _labels_of(states, program):
    """A dict from the states to the labels of their nodes."""
    labels = {}
    given = {}
    for state in states:
        label = _free_label(state[0], program, given)
        given[label] = True
        labels[state] = label
    return labels


def _free_label(original, program, given):
    """The label for a state of an original label, behind those that were given to earlier states."""
    if original not in given:
        return original
    name, _, _ = original.partition(".")
    number = LEAST_NUMBER
    while f"{name}.{number}" in program or f"{name}.{number}" in given:
        number += 1
    return f"{name}.{number}"

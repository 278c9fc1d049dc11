"""Lowering: turning a body, which is without jumps, into nodes.

A body is first turned into a list of steps, each at a place, in the order of the text. A step is a
tuple (label, deed, places): that of a node or a conditional has the places at which its targets
begin; that of a jump, which does nothing but to lead elsewhere, has None, None and one place.
"""

from restruct.errors import SourceFault
from restruct.graphs import order_of
from restruct.signs import EXIT
from restruct.statements import bodies_of

MOST_NODES = 20


def lowered(body):
    """The pair of the entry and the list of the nodes of a body, in the order of the text."""
    check_labels(_labels_of(body))
    # To exit is to leave the whole body; no block or loop can have this name, a keyword.
    whole = ("block", 0, _size_of(body))
    steps = _steps_of(body, 0, {EXIT: whole})
    entry = _target_at(steps, 0)
    nodes = _nodes_of(steps)
    _check_nodes(entry, nodes)
    return entry, nodes


def check_labels(labels):
    """Refuses labels of which one is that of a later node."""
    for at, label in enumerate(labels):
        if label in labels[at + 1:]:
            raise SourceFault("duplicate label", label)


def _labels_of(body):
    """The list of the labels of the nodes and conditionals, in the order of the text."""
    labels = []
    for statement in body:
        if statement[0] in ("node", "if"):
            labels.append(statement[1])
        for inner in bodies_of(statement):
            labels.extend(_labels_of(inner))
    return labels


def _check_nodes(entry, nodes):
    reachable = order_of((entry, {label: targets for label, _, targets in nodes}))
    for label, _, _ in nodes:
        if label not in reachable:
            raise SourceFault("unreachable label", label)
    if len(nodes) > MOST_NODES:
        raise SourceFault("too many nodes", None)


def _size_of(body):
    """The number of the steps of a body."""
    size = 0
    for statement in body:
        if statement[0] == "if":
            # Behind the then-branch a jump leads past the else-branch.
            size += 2
        elif statement[0] not in ("block", "loop"):
            size += 1
        for inner in bodies_of(statement):
            size += _size_of(inner)
    return size


# The functions below are given the place of the first step, and the scopes: a dict from the
# names of the blocks and loops around it to tuples (kind, place of the start, place behind it).

def _steps_of(body, at, scopes):
    """The list of the steps of a body."""
    steps = []
    for statement in body:
        inner = _steps_of_statement(statement, at, scopes)
        steps.extend(inner)
        at += len(inner)
    return steps


def _steps_of_statement(statement, at, scopes):
    kind = statement[0]
    if kind == "node":
        return [(statement[1], statement[2], (at + 1,))]
    if kind == "if":
        return _steps_of_conditional(statement, at, scopes)
    if kind in ("block", "loop"):
        return _steps_of_scope(statement, at, scopes)
    if kind == "continue":
        return [_jump_to(_start_of_loop(statement[1], scopes))]
    return [_jump_to(_place_behind(EXIT if kind == "exit" else statement[1], scopes))]


def _steps_of_conditional(statement, at, scopes):
    _, label, expression, body, other = statement
    steps = _steps_of(body, at + 1, scopes)
    # The jump behind the then-branch stands ahead of the else-branch.
    start = at + 1 + len(steps) + 1
    others = _steps_of(other, start, scopes)
    return [(label, ("if", expression), (at + 1, start)), *steps, _jump_to(start + len(others)), *others]


def _steps_of_scope(statement, at, scopes):
    """The list of the steps of a block or a loop."""
    kind, name, body = statement
    if name in scopes:
        raise SourceFault("name is already in use", name)
    return _steps_of(body, at, {**scopes, name: (kind, at, at + _size_of(body))})


def _start_of_loop(name, scopes):
    if name not in scopes or scopes[name][0] != "loop":
        raise SourceFault("no enclosing loop", name)
    return scopes[name][1]


def _place_behind(name, scopes):
    if name not in scopes:
        raise SourceFault("no enclosing block or loop", name)
    return scopes[name][2]


def _jump_to(place):
    return None, None, (place,)


def _nodes_of(steps):
    """The list of the nodes that the steps make."""
    nodes = []
    for label, deed, places in steps:
        if label is not None:
            nodes.append((label, deed, tuple([_target_at(steps, place) for place in places])))
    return nodes


def _target_at(steps, place):
    """The label of the node to which a place leads through jumps, or the exit."""
    passed = set()
    while place < len(steps) and steps[place][0] is None:
        if place in passed:
            raise SourceFault("loop contains no node", None)
        passed.add(place)
        place = steps[place][2][0]
    return EXIT if place == len(steps) else steps[place][0]

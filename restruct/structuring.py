"""Structuring: the form without jumps of a program, built along its dominators."""

from restruct.errors import NotReducible
from restruct.graphs import edges_of, is_reducible, retreating_edges, strict_dominators
from restruct.signs import EXIT
from restruct.statements import bodies_of


def structured(program):
    """The body of a reducible program."""
    if not is_reducible(program.graph()):
        raise NotReducible("a cycle has no node that dominates all of its nodes")
    if program.entry == EXIT:
        return ()
    return Builder(program).code(program.entry, EXIT)


class Builder:
    """Builds the code of nodes; a follower is the target behind it, a label or the exit."""

    def __init__(self, program):
        graph = program.graph()
        self.program = program
        self.places = {label: place for place, label in enumerate(program)}
        self.headers = {target: True for _, target in retreating_edges(graph)}
        arrivals = [target for source, target in edges_of(graph) if not self.is_retreating(source, target)]
        self.merges = {label: True for label in program if arrivals.count(label) > 1}
        self.dominators = strict_dominators(graph)

    def is_retreating(self, source, target):
        return self.places[target] <= self.places[source]

    def merges_below(self, label):
        """The list of the merge nodes whose immediate dominator is a node, in order."""
        return [merge for merge in self.merges if self.dominators[merge][-1] == label]

    def code(self, label, follower):
        inner = self.inner_code(label, follower)
        if label in self.headers:
            return (("loop", label, inner),)
        return inner

    def inner_code(self, label, follower):
        merges = self.merges_below(label)
        followers = [*merges, follower]
        body = self.own_code(label, followers[0])
        for merge, behind in zip(merges, followers[1:]):
            if _has_break(body, merge):
                body = (("block", merge, body),)
            body = body + self.code(merge, behind)
        return body

    def own_code(self, label, follower):
        _, deed, targets = self.program.node(label)
        first = self.edge_code(label, targets[0], follower)
        if deed[0] != "if":
            return (("node", label, deed), *first)
        return (("if", label, deed[1], first, self.edge_code(label, targets[1], follower)),)

    def edge_code(self, source, target, follower):
        if target == follower:
            return ()
        if target == EXIT:
            return (("exit",),)
        if self.is_retreating(source, target):
            return (("continue", target),)
        if target in self.merges:
            return (("break", target),)
        return self.code(target, follower)


def _has_break(body, name):
    """Tells whether a body has a break to a name outside of all blocks and loops with this name."""
    for statement in body:
        if statement == ("break", name):
            return True
        if statement[:2] not in (("block", name), ("loop", name)):
            for inner in bodies_of(statement):
                if _has_break(inner, name):
                    return True
    return False

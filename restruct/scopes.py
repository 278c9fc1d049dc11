"""Scopes: the statements of a body around a node."""

from restruct.statements import bodies_of


def scopes_of(body, label):
    """The tuple of the pairs (kind, name) of the statements around the node with a label, the outermost first."""
    scopes = _scopes_or_none(body, label, ())
    return () if scopes is None else scopes


def _scopes_or_none(body, label, around):
    """The scopes of the node with a label in a body with some scopes around it, or None if it is not there."""
    for statement in body:
        if statement[0] in ("node", "if") and statement[1] == label:
            return around
        for inner in bodies_of(statement):
            scopes = _scopes_or_none(inner, label, (*around, statement[:2]))
            if scopes is not None:
                return scopes
    return None

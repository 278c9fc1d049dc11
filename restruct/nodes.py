"""Nodes: reading and writing their lines in the form with jumps."""

from restruct.deeds import check_end, deed_text, place_behind, read_deed, read_word
from restruct.errors import BadLine
from restruct.signs import ENTRY, EXIT, is_label, signs_of

GOTO = ("word", "goto")
ELSE = ("word", "else")


def parse_node(line):
    """The node of a line in the form with jumps."""
    signs = signs_of(line)
    label, deed, at = read_deed(signs)
    target, at = _read_target(signs, place_behind(signs, at, GOTO))
    targets = (target,)
    if deed[0] == "if":
        other, at = _read_target(signs, place_behind(signs, at, ELSE))
        targets = (target, other)
    check_end(signs, at)
    return label, deed, targets


def parse_entry(line):
    """The target that the line of an entry names."""
    signs = signs_of(line)
    return _only_target(signs, place_behind(signs, 0, ("word", ENTRY)))


def parse_target(text):
    """The target, a label or the exit, that a text is."""
    return _only_target(signs_of(text), 0)


def node_text(node):
    """The line of a node in normal text."""
    label, deed, targets = node
    return f"{label}: {deed_text(deed)} goto " + " else ".join(targets)


def _only_target(signs, at):
    """The target that stands at a place and ends its line."""
    target, at = _read_target(signs, at)
    check_end(signs, at)
    return target


def _read_target(signs, at):
    """The target, a label or the exit, that stands at a place, and the place behind it."""
    word, at = read_word(signs, at)
    if word != EXIT and not is_label(word):
        raise BadLine(f"{word} stands where a target is missing")
    return word, at

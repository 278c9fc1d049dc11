"""Drafts: what the commands of an edit make of a program, its notes and its breakpoints."""

from restruct.errors import BadLine
from restruct.expressions import parse_expression
from restruct.nodes import parse_node, parse_target
from restruct.signs import is_label, signs_of

LENGTHS = {"set_node": 2, "set_entry": 2, "rename": 3, "set_note": 3, "set_breakpoint": 3}


class Draft:
    """An entry and nodes, the targets of which need not exist; a command tells whether it was applied."""

    def __init__(self, program, notes, breakpoints):
        self.entry = program.entry
        self.nodes = list(program.nodes)
        self.notes = dict(notes)
        self.breakpoints = dict(breakpoints)

    def apply(self, command):
        if not _has_form(command):
            return False
        if command[0] == "set_node":
            return self.set_node(command[1])
        if command[0] == "set_entry":
            return self.set_entry(command[1])
        if command[0] == "rename":
            return self.rename(command[1], command[2])
        if command[0] == "set_note":
            return self.set_note(command[1], command[2])
        return self.set_breakpoint(command[1], command[2])

    def set_node(self, line):
        node = _read_or_none(parse_node, line)
        if node is None:
            return False
        if self.has_node(node[0]):
            self.nodes = [node if other[0] == node[0] else other for other in self.nodes]
        else:
            self.nodes.append(node)
        return True

    def set_entry(self, text):
        target = _read_or_none(parse_target, text)
        if target is None:
            return False
        self.entry = target
        return True

    def rename(self, old, new):
        if not self.has_node(old) or self.has_node(new) or not _is_label_alone(new):
            return False
        self.entry = _renamed(self.entry, old, new)
        self.nodes = [_renamed_node(node, old, new) for node in self.nodes]
        self.notes = _renamed_keys(self.notes, old, new)
        self.breakpoints = _renamed_keys(self.breakpoints, old, new)
        return True

    def set_note(self, label, text):
        if not self.has_node(label):
            return False
        if text == "":
            self.notes.pop(label, None)
        else:
            self.notes[label] = text
        return True

    def set_breakpoint(self, label, text):
        condition = None if text is None else _read_or_none(parse_expression, text)
        if not self.has_node(label) or (text is not None and condition is None):
            return False
        if text is None:
            self.breakpoints.pop(label, None)
        else:
            self.breakpoints[label] = condition
        return True

    def has_node(self, label):
        return label in [node[0] for node in self.nodes]


def _has_form(command):
    """Tells whether a value is a tuple of the word of a command and as many texts as belong to it."""
    if not isinstance(command, tuple) or command == ():
        return False
    texts = command
    if command[0] == "set_breakpoint" and command[-1] is None:
        texts = command[:-1]
    for text in texts:
        if not isinstance(text, str):
            return False
    return LENGTHS.get(command[0]) == len(command)


def _read_or_none(read, text):
    """What a function reads in a text, or None if it refuses the text."""
    try:
        return read(text)
    except BadLine:
        return None


def _is_label_alone(text):
    """Tells whether a text is a label, without spaces."""
    return _read_or_none(signs_of, text) == [("word", text)] and is_label(text)


def _renamed(label, old, new):
    return new if label == old else label


def _renamed_node(node, old, new):
    label, deed, targets = node
    return _renamed(label, old, new), deed, tuple([_renamed(target, old, new) for target in targets])


def _renamed_keys(table, old, new):
    return {_renamed(label, old, new): worth for label, worth in table.items()}

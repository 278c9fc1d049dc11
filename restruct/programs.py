"""Programs: reading sources in both forms, and their normal texts."""

from restruct.errors import BadLine, SourceFault, SyntaxFault
from restruct.graphs import order_of
from restruct.lowering import check_labels, lowered
from restruct.nodes import node_text, parse_entry, parse_node
from restruct.signs import ENTRY, EXIT, LETTERS
from restruct.statements import body_text, parse_body


class Program:
    """A program of an entry and a tuple of nodes that are normalized."""

    MOST_NODES = 20
    MOST_DEPTH = 60
    MOST_HEIGHT = 20
    MOST_OPEN = 20

    def __init__(self, entry, nodes):
        self.entry = entry
        self.nodes = nodes
        self.labels = tuple([label for label, _, _ in nodes])
        self.text = _text_with_jumps(entry, nodes)

    @staticmethod
    def parse(text):
        """The program of a source in either form."""
        if not _has_jumps(text):
            entry, nodes = lowered(parse_body(text))
            return normalized(entry, nodes)
        entry, nodes = _read_jumps(text)
        check_labels([label for label, _, _ in nodes])
        return checked_program(entry, nodes)

    def __eq__(self, other):
        return isinstance(other, Program) and self.text == other.text

    def __len__(self):
        return len(self.nodes)

    def __iter__(self):
        return iter(self.labels)

    def __contains__(self, label):
        return label in self.labels

    def node(self, label):
        """The node with a label, or None."""
        for node in self.nodes:
            if node[0] == label:
                return node
        return None

    def graph(self):
        """The pair of the entry and a new dict from the labels to the tuples of their targets."""
        return _graph_of(self.entry, self.nodes)


def format_source(text):
    """The normal text of a source in its own form, with all nodes in the order of the source."""
    if not _has_jumps(text):
        return body_text(parse_body(text))
    entry, nodes = _read_jumps(text)
    return _text_with_jumps(entry, nodes)


def checked_program(entry, nodes):
    """The program of nodes with different labels, in any order, whose targets may be unknown."""
    _check_targets(entry, nodes)
    program = normalized(entry, nodes)
    if len(program) > Program.MOST_NODES:
        raise SourceFault("too many nodes", None)
    return program


def normalized(entry, nodes):
    """The program of any number of nodes with different labels, in any order, whose targets are known."""
    by_label = {node[0]: node for node in nodes}
    return Program(entry, tuple([by_label[label] for label in order_of(_graph_of(entry, nodes))]))


def _check_targets(entry, nodes):
    known = {label: True for label, _, _ in nodes}
    for targets in [(entry,), *[node[2] for node in nodes]]:
        for target in targets:
            if target != EXIT and target not in known:
                raise SourceFault("unknown label", target)


def _graph_of(entry, nodes):
    return entry, {label: targets for label, _, targets in nodes}


def _text_with_jumps(entry, nodes):
    """The lines of an entry and of nodes, in normal text."""
    return "\n".join([f"{ENTRY} {entry}", *[node_text(node) for node in nodes]])


def _has_jumps(text):
    """Tells whether a source is read in the form with jumps."""
    for line in text.split("\n"):
        signs = line.lstrip(" ")
        if signs != "":
            behind = signs[len(ENTRY):len(ENTRY) + 1]
            return signs.startswith(ENTRY) and (behind == "" or behind not in LETTERS + ".")
    return False


def _read_jumps(text):
    """The entry and the list of the nodes of a source in the form with jumps, in the order of the source."""
    entry = None
    nodes = []
    for at, line in enumerate(text.split("\n")):
        if line.strip(" ") != "":
            try:
                if entry is None:
                    entry = parse_entry(line)
                else:
                    nodes.append(parse_node(line))
            except BadLine:
                raise SyntaxFault(at + 1) from None
    return entry, nodes

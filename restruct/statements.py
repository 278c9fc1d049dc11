"""Statements: reading and writing bodies in the form without jumps."""

from restruct.deeds import check_end, deed_text, place_behind, read_deed, read_label
from restruct.errors import BadLine, SyntaxFault
from restruct.expressions import expression_text
from restruct.signs import signs_of

MOST_DEPTH = 60
INDENT = "  "
BRACKET = ("symbol", "{")
# What a line says is its head: a statement without its bodies, or one of these.
BLANK = ()
CLOSING = ("}",)
BETWEEN = ("}", "else", "{")
EXITING = ("exit",)


def parse_body(text):
    """The body of a source in the form without jumps."""
    heads = [_head_or_none(line) for line in text.split("\n")]
    body, at = _read_body(heads, 0, 0)
    if at < len(heads):
        # This line closes something, and nothing is open.
        raise SyntaxFault(at + 1)
    return body


def body_text(body):
    """The normal text of a body."""
    return "\n".join(_lines_of(body, ""))


def bodies_of(statement):
    """The tuple of the bodies of a statement, in the order of the text."""
    if statement[0] == "if":
        return statement[3:]
    return statement[2:] if statement[0] in ("block", "loop") else ()


def _head_or_none(line):
    """The head of a line, or None if the line is wrong or has none of the forms."""
    try:
        return _head_of(line)
    except BadLine:
        return None


def _head_of(line):
    signs = signs_of(line)
    words = tuple([value for _, value in signs])
    if words in (BLANK, CLOSING, BETWEEN, EXITING):
        return words
    if words[0] in ("block", "loop", "break", "continue"):
        label, at = read_label(signs, 1)
        head = (words[0], label)
    else:
        label, deed, at = read_deed(signs)
        head = ("if", label, deed[1]) if deed[0] == "if" else ("node", label, deed)
    if _is_opening(head):
        at = place_behind(signs, at, BRACKET)
    check_end(signs, at)
    return head


def _is_opening(head):
    return head[0] in ("if", "block", "loop")


# The functions below are given the heads of all lines, the place of a line, and the number
# of statements that are open. They return what they read and the place of the line behind it.

def _read_body(heads, at, opened):
    body = []
    while at < len(heads) and heads[at] not in (CLOSING, BETWEEN):
        head = heads[at]
        if head is None:
            raise SyntaxFault(at + 1)
        if head == BLANK:
            at += 1
        else:
            statement, at = _read_statement(heads, at, opened)
            body.append(statement)
    return tuple(body), at


def _read_statement(heads, at, opened):
    head = heads[at]
    if not _is_opening(head):
        return head, at + 1
    if opened == MOST_DEPTH:
        raise SyntaxFault(at + 1)
    body, at = _read_body(heads, at + 1, opened + 1)
    bodies = (body,)
    if head[0] == "if":
        other, at = _read_other_branch(heads, at, opened + 1)
        bodies = (body, other)
    # Behind the last line nothing closes the statement; this is the number of lines and 1.
    if heads[at:at + 1] != [CLOSING]:
        raise SyntaxFault(at + 1)
    return head + bodies, at + 1


def _read_other_branch(heads, at, opened):
    """The else-branch, which is empty if there is none."""
    if heads[at:at + 1] != [BETWEEN]:
        return (), at
    return _read_body(heads, at + 1, opened)


def _lines_of(body, indent):
    """The list of the lines of a body."""
    lines = []
    for statement in body:
        lines.extend(_lines_of_statement(statement, indent))
    return lines


def _lines_of_statement(statement, indent):
    bodies = bodies_of(statement)
    if not bodies:
        return [indent + _text_of_head(statement)]
    lines = [indent + _text_of_head(statement) + " {"]
    lines.extend(_lines_of(bodies[0], indent + INDENT))
    if len(bodies) > 1 and bodies[1]:
        lines.append(indent + " ".join(BETWEEN))
        lines.extend(_lines_of(bodies[1], indent + INDENT))
    return [*lines, indent + "}"]


def _text_of_head(statement):
    """The normal text of a statement without its bodies and brackets."""
    if statement[0] == "node":
        return f"{statement[1]}: {deed_text(statement[2])}"
    if statement[0] == "if":
        return f"{statement[1]}: if {expression_text(statement[2])}"
    return " ".join(statement[:2])

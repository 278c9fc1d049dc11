"""Labels and deeds: what the lines of both forms have in common."""

from restruct.errors import BadLine
from restruct.expressions import expression_text, read_expression
from restruct.signs import is_label, is_name

COLON = ("symbol", ":")
EQUALS = ("symbol", "=")


def read_deed(signs):
    """The label and the deed that a line begins with, and the place behind them."""
    label, at = read_label(signs, 0)
    word, at = read_word(signs, place_behind(signs, at, COLON))
    if word in ("print", "if"):
        expression, at = read_expression(signs, at)
        return label, (word, expression), at
    if not is_name(word):
        raise BadLine(f"{word} stands where a variable is missing")
    expression, at = read_expression(signs, place_behind(signs, at, EQUALS))
    return label, ("set", word, expression), at


def read_label(signs, at):
    """The label that stands at a place, and the place behind it."""
    word, at = read_word(signs, at)
    if not is_label(word):
        raise BadLine(f"{word} stands where a label is missing")
    return word, at


def read_word(signs, at):
    """The word that stands at a place, and the place behind it."""
    if at == len(signs) or signs[at][0] != "word":
        raise BadLine("a word is missing")
    return signs[at][1], at + 1


def place_behind(signs, at, sign):
    """The place behind a sign that must stand at a place."""
    if signs[at:at + 1] != [sign]:
        raise BadLine(f"{sign[1]} is missing")
    return at + 1


def check_end(signs, at):
    """Refuses signs that stand at a place behind the last sign of a line."""
    if at < len(signs):
        raise BadLine("signs stand behind the end of what the line says")


def deed_text(deed):
    """The normal text of a deed."""
    if deed[0] == "set":
        return f"{deed[1]} = {expression_text(deed[2])}"
    return f"{deed[0]} {expression_text(deed[1])}"

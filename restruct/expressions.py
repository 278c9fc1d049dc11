"""Expressions: reading, writing and computing them."""

from restruct.errors import BadLine
from restruct.signs import is_name, signs_of

MOST_HEIGHT = 20
MOST_OPEN = 20
MOST_VALUE = 1000000
COMPARISON = 1
PRIMARY = 4
# The higher the level of a sign, the closer it binds.
LEVELS = {"=": 1, "<": 1, "+": 2, "-": 2, "*": 3}


def parse_expression(text):
    """The expression that a line is."""
    signs = signs_of(text)
    expression, at = read_expression(signs, 0)
    if at < len(signs):
        raise BadLine("signs stand behind the expression")
    return expression


def read_expression(signs, at):
    """The longest expression that begins at a place among signs, and the place behind it."""
    part, at = _read_comparison(signs, at, 0)
    return part[0], at


def expression_text(expression):
    """The normal text of an expression."""
    kind = expression[0]
    if kind == "number":
        return str(expression[1])
    if kind == "variable":
        return expression[1]
    level = LEVELS[kind]
    # Comparisons do not group; the other signs group to the left.
    left = _text_from_level(expression[1], level + 1 if level == COMPARISON else level)
    right = _text_from_level(expression[2], level + 1)
    return f"{left} {kind} {right}"


def height_of(expression):
    """The height of an expression."""
    if expression[0] in ("number", "variable"):
        return 1
    return 1 + max(height_of(expression[1]), height_of(expression[2]))


def evaluate(expression, variables):
    """The value of an expression for given values of variables, or None if it overflows."""
    kind = expression[0]
    if kind == "number":
        return expression[1]
    if kind == "variable":
        return variables.get(expression[1], 0)
    left = evaluate(expression[1], variables)
    right = evaluate(expression[2], variables)
    if left is None or right is None:
        return None
    if kind == "=":
        return 1 if left == right else 0
    if kind == "<":
        return 1 if left < right else 0
    return _result_of(kind, left, right)


def _result_of(sign, left, right):
    """The result of an addition, a subtraction or a multiplication, or None if it overflows."""
    if sign == "+":
        result = left + right
    elif sign == "-":
        result = left - right
    else:
        result = left * right
    return result if -MOST_VALUE <= result <= MOST_VALUE else None


def _text_from_level(expression, least):
    """The normal text of an expression, in parentheses if its level is too low for its place."""
    text = expression_text(expression)
    if LEVELS.get(expression[0], PRIMARY) < least:
        return f"({text})"
    return text


# The functions below are given the number of parentheses that are open. Each of them
# returns a part, which is a pair (expression, height), and the place behind it. Heights
# are counted while reading, so that a long line is refused before it nests too deeply.

def _read_comparison(signs, at, opened):
    left, at = _read_sum(signs, at, opened)
    if _symbol_at(signs, at) not in ("=", "<"):
        return left, at
    right, end = _read_sum(signs, at + 1, opened)
    return _joined(signs[at][1], left, right), end


def _read_sum(signs, at, opened):
    part, at = _read_product(signs, at, opened)
    while _symbol_at(signs, at) in ("+", "-"):
        right, end = _read_product(signs, at + 1, opened)
        part = _joined(signs[at][1], part, right)
        at = end
    return part, at


def _read_product(signs, at, opened):
    part, at = _read_primary(signs, at, opened)
    while _symbol_at(signs, at) == "*":
        right, at = _read_primary(signs, at + 1, opened)
        part = _joined("*", part, right)
    return part, at


def _read_primary(signs, at, opened):
    if at == len(signs):
        raise BadLine("the line ends where a number, a variable or ( is missing")
    kind, value = signs[at]
    if kind == "number":
        return (("number", value), 1), at + 1
    if kind == "word" and is_name(value):
        return (("variable", value), 1), at + 1
    if kind == "symbol" and value == "(":
        return _read_parentheses(signs, at, opened)
    raise BadLine(f"{value} stands where a number, a variable or ( is missing")


def _read_parentheses(signs, at, opened):
    if opened == MOST_OPEN:
        raise BadLine(f"more than {MOST_OPEN} parentheses are open at once")
    part, end = _read_comparison(signs, at + 1, opened + 1)
    if _symbol_at(signs, end) != ")":
        raise BadLine("a parenthesis is not closed")
    return part, end + 1


def _symbol_at(signs, at):
    """The symbol at a place, or None if no symbol stands there."""
    if at < len(signs) and signs[at][0] == "symbol":
        return signs[at][1]
    return None


def _joined(sign, left, right):
    """The part that a sign makes of two parts."""
    height = 1 + max(left[1], right[1])
    if height > MOST_HEIGHT:
        raise BadLine(f"an expression has a height above {MOST_HEIGHT}")
    return (sign, left[0], right[0]), height

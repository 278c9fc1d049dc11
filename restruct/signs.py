"""Lines and the signs that they consist of."""

from restruct.errors import BadLine

LETTERS = "abcdefghijklmnopqrstuvwxyz"
DIGITS = "0123456789"
SYMBOLS = "(){}:=+-*<"
KEYWORDS = ("entry", "goto", "else", "if", "print", "block", "loop", "break", "continue", "exit")
ENTRY = "entry"
EXIT = "exit"
MOST_LETTERS = 8
LEAST_COPY = 2
MOST_COPY = 99
MOST_NUMBER = 1000000


def signs_of(line):
    """The list of the signs of a line, pairs (kind, value)."""
    signs = []
    at = 0
    while at < len(line):
        if line[at] == " ":
            at += 1
        else:
            sign, at = _sign_from(line, at)
            signs.append(sign)
    return signs


def is_name(word):
    """Tells whether a word is a name: without a dot, and no keyword."""
    return "." not in word and word not in KEYWORDS


def is_label(word):
    """Tells whether a word is a label: a name, behind which a dot and a number may stand."""
    return is_name(word.partition(".")[0])


def _sign_from(line, start):
    """The sign that begins at a place that is no space, and the place behind it."""
    if line[start] in LETTERS:
        return _word_from(line, start)
    if line[start] in DIGITS:
        end = _end_of_run(line, start, DIGITS)
        return ("number", _number_of(line[start:end], 0, MOST_NUMBER)), end
    if line[start] in SYMBOLS:
        return ("symbol", line[start]), start + 1
    raise BadLine(f"no sign begins at character {start + 1} of the line")


def _word_from(line, start):
    """The word that begins at a place with a letter, and the place behind it."""
    end = _end_of_run(line, start, LETTERS)
    if end - start > MOST_LETTERS:
        raise BadLine(f"a word has more than {MOST_LETTERS} letters")
    if line[end:end + 1] == ".":
        dot = end
        end = _end_of_run(line, dot + 1, DIGITS)
        _number_of(line[dot + 1:end], LEAST_COPY, MOST_COPY)
    return ("word", line[start:end]), end


def _end_of_run(line, start, characters):
    """The place behind the characters of one kind that stand together from a place on."""
    end = start
    while end < len(line) and line[end] in characters:
        end += 1
    return end


def _number_of(digits, least, most):
    """The number that digits, perhaps none, stand for."""
    # Python refuses to read some thousands of digits with an error of its own.
    if digits == "" or len(digits) > len(str(most)):
        raise BadLine(f"a number from {least} to {most} must stand here")
    if digits[0] == "0" and len(digits) > 1:
        raise BadLine("a number has a zero in front")
    number = int(digits)
    if number < least or number > most:
        raise BadLine(f"{number} is not from {least} to {most}")
    return number

"""Papers, which show that two programs have the same runs.

A paper is a tuple of pairs (label of the first program, label of the second program).
"""

from restruct.signs import EXIT


def judges(first, second, paper):
    """Tells whether the judge takes a paper of two programs; the paper may be any value."""
    if not _has_pairs_alone(paper):
        return False
    pairs = {pair: True for pair in paper}
    if len(pairs) < len(paper) or not _are_matched(first.entry, second.entry, pairs):
        return False
    for label, other in paper:
        if not _is_shown(first.node(label), second.node(other), pairs):
            return False
    return True


def search(first, second):
    """The pair of "paper" and a paper of two programs, or of "differ" and the choices that show it."""
    start = (first.entry, second.entry)
    choices = {start: ()}
    waiting = [start]
    pairs = []
    while waiting:
        pair = waiting.pop(0)
        if pair != (EXIT, EXIT):
            node = first.node(pair[0])
            other = second.node(pair[1])
            if not _have_equal_deeds(node, other):
                return "differ", choices[pair]
            pairs.append(pair)
            for choice, behind in enumerate(zip(node[2], other[2])):
                if behind not in choices:
                    choices[behind] = (*choices[pair], choice)
                    waiting.append(behind)
    return "paper", tuple(pairs)


def turned(paper):
    """The paper of the same programs the other way round."""
    return tuple([(other, label) for label, other in paper])


def chained(paper, other):
    """The paper of a first and a third program, by one of the first and a second and one of that and the third."""
    pairs = {}
    for first, second in paper:
        for begin, third in other:
            if begin == second:
                pairs[(first, third)] = True
    return tuple(pairs)


def split_paper(origins):
    """The paper of a program and its split one, by the pairs (label, original label)."""
    return turned(origins)


def _has_pairs_alone(paper):
    """Tells whether a value is a tuple of pairs of texts."""
    if not isinstance(paper, tuple):
        return False
    for pair in paper:
        if not isinstance(pair, tuple) or len(pair) != 2:
            return False
        if not isinstance(pair[0], str) or not isinstance(pair[1], str):
            return False
    return True


def _are_matched(target, other, pairs):
    return (target, other) in pairs or (target, other) == (EXIT, EXIT)


def _is_shown(node, other, pairs):
    """Tells whether two nodes, or None for a missing one, have equal deeds and matched targets."""
    if not _have_equal_deeds(node, other):
        return False
    for target, further in zip(node[2], other[2]):
        if not _are_matched(target, further, pairs):
            return False
    return True


def _have_equal_deeds(node, other):
    return node is not None and other is not None and node[1] == other[1]

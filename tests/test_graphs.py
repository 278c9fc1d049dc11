"""Points 12, 13, 23 to 25 and the part restruct/graphs.py of the interface."""

import copy
import unittest
from itertools import combinations, product

from restruct.graphs import (
    edges_of, is_reducible, loops_of, order_of, retreating_edges, strict_dominators, witness_of)

FUNCTIONS = (order_of, edges_of, strict_dominators, retreating_edges, loops_of, is_reducible, witness_of)


def made(text, entry="a"):
    """The graph of a text such as "a: b c, b: exit"."""
    targets = {}
    for part in text.split(", "):
        label, _, rest = part.partition(": ")
        targets[label] = tuple(rest.split())
    return entry, targets


STRAIGHT = made("a: b, b: c, c: exit")
JOIN = made("a: b c, b: d, c: d, d: exit")
LOOP = made("a: b, b: c d, c: b, d: exit")
TWO_ENTRIES = made("a: b c, b: c, c: b")
NOTHING = ("exit", {})
# Two loops within one another: b is the header of the outer one, d of the inner one.
NESTED = made("a: b, b: c g, c: d, d: e f, e: d, f: b, g: exit")


# What the document says of a graph, looked at in another way than the program does it: by
# all paths that have no node twice. This is for small graphs.

def reachable_in(graph, barred=()):
    entry, targets = graph
    found, waiting = [], [entry]
    while waiting:
        label = waiting.pop()
        if label != "exit" and label not in found and label not in barred:
            found.append(label)
            waiting.extend(targets[label])
    return found


def order_by_words(graph):
    entry, targets = graph
    found, finished = [], []

    def search(label):
        if label != "exit" and label not in found:
            found.append(label)
            for target in targets[label][::-1]:
                search(target)
            finished.append(label)

    search(entry)
    return tuple(reversed(finished))


def search_path(graph, wanted):
    """The path by which the search found a label."""
    _, targets = graph
    found = set()

    def search(label, path):
        if label == "exit" or label in found:
            return None
        found.add(label)
        here = path + (label,)
        if label == wanted:
            return here
        for target in targets[label][::-1]:
            way = search(target, here)
            if way is not None:
                return way
        return None

    return search(graph[0], ())


def paths_to(graph, wanted, barred=()):
    """All paths from the entry to a label without a label twice, those with then-targets ahead."""
    _, targets = graph
    paths = []

    def walk(label, path):
        if label == "exit" or label in path or label in barred:
            return
        if label == wanted:
            paths.append(path + (label,))
            return
        for target in targets[label]:
            walk(target, path + (label,))

    walk(graph[0], ())
    return paths


def dominators_by_words(graph):
    order = order_by_words(graph)
    dominators = {}
    for label in order:
        ways = paths_to(graph, label)
        dominators[label] = tuple(one for one in order if one != label and all(one in way for way in ways))
    return dominators


def leads_within(targets, start, goal, allowed):
    """Whether a path of allowed labels leads from one label to another, perhaps the same one."""
    found, waiting = set(), [start]
    while waiting:
        label = waiting.pop()
        if label in allowed and label not in found:
            found.add(label)
            waiting.extend(targets[label])
    return goal in found


def loops_by_words(graph):
    order = order_by_words(graph)
    loops = {}
    for header in order:
        sources = [source for source in order if header in graph[1][source]
                   and order.index(header) <= order.index(source)]
        others = [label for label in order if label != header]
        if sources:
            loops[header] = tuple(
                label for label in order if label == header
                or any(leads_within(graph[1], label, source, others) for source in sources))
    return loops


def reducible_by_cycles(graph):
    """Whether each cycle has a node that dominates all of its nodes.

    The nodes of a cycle are a set of nodes that all lead to each other within this set.
    """
    order = order_by_words(graph)
    dominators = dominators_by_words(graph)
    for many in range(2, len(order) + 1):
        for nodes in combinations(order, many):
            is_cycle = all(leads_within(graph[1], one, other, nodes) for one in nodes for other in nodes)
            if is_cycle and not any(
                    all(one == other or one in dominators[other] for other in nodes) for one in nodes):
                return False
    return True


def witness_by_words(graph):
    order = order_by_words(graph)
    dominators = dominators_by_words(graph)
    for source in order:
        for header in graph[1][source]:
            if header in order and order.index(header) <= order.index(source):
                if header != source and header not in dominators[source]:
                    cycle = search_path(graph, source)
                    # min takes the first one of several shortest paths.
                    other = min(paths_to(graph, source, (header,)), key=len)
                    return header, cycle[cycle.index(header):], search_path(graph, header), other
    return None


def all_graphs_of_three():
    """All graphs of three nodes with two targets each; the entry is the first one."""
    pairs = list(product(("a", "b", "c", "exit"), repeat=2))
    for rows in product(pairs, repeat=3):
        yield "a", dict(zip("abc", rows))


def some_graphs(labels, many, start):
    """Graphs of these labels that differ much from each other, some nodes with just one target."""
    choices = list(labels) + ["exit"]
    state = start
    for _ in range(many):
        targets = {}
        for label in labels:
            row = []
            for _ in range(2):
                state = (state * 1103515245 + 12345) % 2 ** 31
                row.append(choices[(state >> 12) % len(choices)])
            targets[label] = tuple(row[:1] if (state >> 20) % 8 == 0 else row)
        yield labels[0], targets


class GraphTest(unittest.TestCase):

    def assert_order(self, graph, labels):
        self.assertEqual(order_of(graph), tuple(labels.split()))


class Arguments(GraphTest):
    """Point 2."""

    def test_no_argument_is_changed(self):
        for graph in (STRAIGHT, JOIN, LOOP, TWO_ENTRIES, NOTHING, NESTED, made("a: a a, x: a")):
            before = copy.deepcopy(graph)
            items = list(graph[1].items())
            for function in FUNCTIONS:
                function(graph)
                self.assertEqual(graph, before, function.__name__)
                self.assertEqual(list(graph[1].items()), items, function.__name__)

    def test_every_list_and_dict_is_new(self):
        for function in (edges_of, retreating_edges):
            first = function(LOOP)
            first.append(("x", "y"))
            self.assertNotEqual(function(LOOP), first)
        for function in (strict_dominators, loops_of):
            first = function(LOOP)
            first["x"] = ()
            self.assertNotEqual(function(LOOP), first)

    def test_kinds_of_values(self):
        for graph in (STRAIGHT, TWO_ENTRIES, NOTHING):
            self.assertIs(type(order_of(graph)), tuple)
            for function in (edges_of, retreating_edges):
                self.assertIs(type(function(graph)), list)
                for edge in function(graph):
                    self.assertIs(type(edge), tuple)
            for function in (strict_dominators, loops_of):
                self.assertIs(type(function(graph)), dict)
                for labels in function(graph).values():
                    self.assertIs(type(labels), tuple)
            self.assertIs(type(is_reducible(graph)), bool)
        self.assertEqual([type(part) for part in witness_of(TWO_ENTRIES)], [str, tuple, tuple, tuple])


class Order(GraphTest):
    """Point 13."""

    def test_no_nodes(self):
        self.assertEqual(order_of(NOTHING), ())

    def test_the_entry_at_the_exit(self):
        self.assertEqual(order_of(("exit", {"a": ("b",), "b": ("exit",)})), ())

    def test_one_node(self):
        for targets in ("exit", "a", "a a", "exit exit", "a exit", "exit a"):
            self.assert_order(made(f"a: {targets}"), "a")

    def test_one_behind_the_other(self):
        self.assert_order(STRAIGHT, "a b c")
        self.assert_order(made("c: exit, b: c, a: b"), "a b c")
        self.assert_order(made("a: c, b: a, c: exit", "b"), "b a c")

    def test_the_else_target_goes_ahead_in_the_search(self):
        self.assert_order(made("a: b c, b: exit, c: exit"), "a b c")
        self.assert_order(made("a: c b, b: exit, c: exit"), "a c b")
        self.assert_order(made("a: b c, c: exit, b: exit"), "a b c")

    def test_a_branch_that_leads_to_the_other(self):
        self.assert_order(made("a: b c, b: c, c: exit"), "a b c")
        self.assert_order(made("a: b c, b: exit, c: b"), "a c b")

    def test_forks_and_joins(self):
        self.assert_order(JOIN, "a b c d")
        self.assert_order(made("a: c b, b: d, c: d, d: exit"), "a c b d")
        self.assert_order(made("a: b c, b: d e, c: e f, d: g, e: g, f: g, g: exit"), "a b d c e f g")
        self.assert_order(made("a: b exit, b: c exit, c: exit"), "a b c")
        self.assert_order(made("a: exit b, b: exit c, c: exit"), "a b c")

    def test_cycles(self):
        self.assert_order(LOOP, "a b c d")
        self.assert_order(made("a: b, b: d c, c: b, d: exit"), "a b d c")
        self.assert_order(made("a: b, b: a"), "a b")
        self.assert_order(TWO_ENTRIES, "a c b")
        self.assert_order(made("a: c b, b: c, c: b"), "a b c")
        self.assert_order(NESTED, "a b c d e f g")

    def test_an_edge_to_the_node_itself(self):
        self.assert_order(made("a: a b, b: exit"), "a b")
        self.assert_order(made("a: b a, b: b c, c: c"), "a b c")

    def test_two_edges_to_the_same_target(self):
        self.assert_order(made("a: b b, b: c c, c: exit exit"), "a b c")

    def test_nodes_that_are_not_reachable(self):
        self.assert_order(made("x: a, a: b, y: x y, b: exit, z: b"), "a b")
        self.assert_order(made("a: exit, b: a b"), "a")

    def test_labels_with_a_dot(self):
        self.assertEqual(order_of(("a.2", {"a": ("a.2",), "a.2": ("a.10", "a"), "a.10": ("exit",)})),
                         ("a.2", "a.10", "a"))

    def test_a_long_graph(self):
        labels = [f"n{number}" for number in range(3000)]
        targets = {label: (behind,) for label, behind in zip(labels, labels[1:] + ["exit"])}
        self.assertEqual(order_of((labels[0], targets)), tuple(labels))

    def test_all_graphs_of_three_nodes_and_some_of_more(self):
        for graph in all_graphs_of_three():
            self.assertEqual(order_of(graph), order_by_words(graph), graph)
        for graph in some_graphs("abcdefgh", 500, 1):
            self.assertEqual(order_of(graph), order_by_words(graph), graph)


class Edges(GraphTest):
    """Point 12."""

    def test_no_edges(self):
        self.assertEqual(edges_of(NOTHING), [])
        self.assertEqual(edges_of(made("a: exit exit")), [])
        self.assertEqual(edges_of(("exit", {"a": ("a",)})), [])

    def test_by_the_sources_in_order(self):
        self.assertEqual(edges_of(made("c: exit, b: c, a: b")), [("a", "b"), ("b", "c")])
        self.assertEqual(edges_of(TWO_ENTRIES), [("a", "b"), ("a", "c"), ("c", "b"), ("b", "c")])

    def test_the_then_target_first(self):
        self.assertEqual(edges_of(JOIN), [("a", "b"), ("a", "c"), ("b", "d"), ("c", "d")])
        self.assertEqual(edges_of(made("a: c b, b: c, c: exit")), [("a", "c"), ("a", "b"), ("b", "c")])

    def test_the_exit_is_no_target_of_an_edge(self):
        self.assertEqual(edges_of(made("a: exit b, b: c exit, c: exit")), [("a", "b"), ("b", "c")])

    def test_to_the_node_itself_and_twice_to_the_same_target(self):
        self.assertEqual(edges_of(made("a: a b, b: b b")), [("a", "a"), ("a", "b"), ("b", "b"), ("b", "b")])
        self.assertEqual(edges_of(made("a: b b, b: exit")), [("a", "b"), ("a", "b")])

    def test_only_between_reachable_nodes(self):
        self.assertEqual(edges_of(made("x: a y, a: b, y: b, b: exit")), [("a", "b")])


class Dominators(GraphTest):
    """Point 23."""

    def assert_dominators(self, graph, **dominators):
        expected = [(label, tuple(text.split())) for label, text in dominators.items()]
        self.assertEqual(list(strict_dominators(graph).items()), expected)

    def test_no_nodes(self):
        self.assertEqual(strict_dominators(NOTHING), {})
        self.assertEqual(strict_dominators(("exit", {"a": ("exit",)})), {})

    def test_one_behind_the_other(self):
        self.assert_dominators(STRAIGHT, a="", b="a", c="a b")
        self.assert_dominators(made("c: exit, b: c, a: b"), a="", b="a", c="a b")

    def test_without_cycles(self):
        self.assert_dominators(JOIN, a="", b="a", c="a", d="a")
        self.assert_dominators(made("a: b d, b: c d, c: d, d: e, e: exit"), a="", b="a", c="a b", d="a", e="a d")
        self.assert_dominators(made("a: b b, b: c c, c: exit"), a="", b="a", c="a b")

    def test_with_cycles(self):
        self.assert_dominators(LOOP, a="", b="a", c="a b", d="a b")
        self.assert_dominators(made("a: a b, b: a exit"), a="", b="a")
        self.assert_dominators(NESTED, a="", b="a", c="a b", d="a b c", e="a b c d", f="a b c d", g="a b")
        self.assert_dominators(TWO_ENTRIES, a="", c="a", b="a")
        self.assert_dominators(made("a: b c, b: c, c: d b, d: e, e: exit"), a="", c="a", d="a c", e="a c d", b="a")

    def test_in_order_and_not_in_the_order_of_the_graph(self):
        self.assert_dominators(made("d: exit, c: d, b: c, z: b", "z"), z="", b="z", c="z b", d="z b c")

    def test_nodes_that_are_not_reachable_do_not_count(self):
        self.assert_dominators(made("x: b, a: b, b: c, y: c x, c: exit"), a="", b="a", c="a b")

    def test_all_graphs_of_three_nodes_and_some_of_more(self):
        for graph in [*all_graphs_of_three(), *some_graphs("abcdef", 500, 2)]:
            self.assertEqual(list(strict_dominators(graph).items()), list(dominators_by_words(graph).items()), graph)


class Loops(GraphTest):
    """Point 24."""

    def assert_loops(self, graph, edges, **loops):
        expected = [(label, tuple(text.split())) for label, text in loops.items()]
        self.assertEqual(retreating_edges(graph), [tuple(edge) for edge in edges.split()])
        self.assertEqual(list(loops_of(graph).items()), expected)

    def test_no_loops(self):
        for graph in (NOTHING, STRAIGHT, JOIN, made("a: b b, b: exit"), ("exit", {"a": ("a",)})):
            self.assert_loops(graph, "")

    def test_an_edge_to_the_node_itself(self):
        self.assert_loops(made("a: a"), "aa", a="a")
        self.assert_loops(made("a: a exit"), "aa", a="a")
        self.assert_loops(made("a: b, b: c b, c: exit"), "bb", b="b")
        self.assert_loops(made("a: a b, b: b c, c: c"), "aa bb cc", a="a", b="b", c="c")

    def test_two_retreating_edges_of_one_node_to_the_same_target(self):
        self.assert_loops(made("a: b, b: a a"), "ba ba", a="a b")
        self.assert_loops(made("a: a a"), "aa aa", a="a")

    def test_one_loop(self):
        self.assert_loops(LOOP, "cb", b="b c")
        self.assert_loops(made("a: b, b: a"), "ba", a="a b")
        self.assert_loops(made("a: b c, b: d, c: d, d: a e, e: exit"), "da", a="a b c d")

    def test_loops_within_loops(self):
        self.assert_loops(NESTED, "ed fb", b="b c d e f", d="d e")
        self.assert_loops(made("a: b exit, b: b a"), "bb ba", a="a b", b="b")

    def test_loops_with_a_common_header(self):
        self.assert_loops(made("a: b, b: c d, c: b, d: b exit"), "cb db", b="b c d")
        self.assert_loops(made("a: a b, b: a exit"), "aa ba", a="a b")

    def test_loops_one_behind_the_other(self):
        self.assert_loops(made("a: a b, b: c, c: b d, d: exit"), "aa cb", a="a", b="b c")

    def test_a_node_that_only_leaves_a_loop_is_not_of_it(self):
        self.assert_loops(made("a: b, b: c d, c: b e, d: exit, e: exit"), "cb", b="b c")

    def test_graphs_that_are_not_reducible(self):
        # Without c, paths lead from a, also by e, to b, the source; so they are of the loop, too. From f none does.
        self.assert_loops(TWO_ENTRIES, "bc", c="a c b")
        self.assert_loops(made("a: b c, b: d c, c: b, d: exit"), "bc", c="a c b")
        self.assert_loops(made("a: e f, e: b, f: c, b: c, c: b d, d: exit"), "bc", c="a e c b")

    def test_keys_in_order(self):
        graph = made("b: z, z: z y, y: b y", "b")
        self.assert_loops(graph, "zz yb yy", b="b z y", z="z", y="y")
        self.assertEqual(list(loops_of(graph)), ["b", "z", "y"])

    def test_nodes_that_are_not_reachable_do_not_count(self):
        self.assert_loops(made("x: b x, a: b, b: c, c: b, y: c"), "cb", b="b c")

    def test_all_graphs_of_three_nodes_and_some_of_more(self):
        for graph in [*all_graphs_of_three(), *some_graphs("abcdef", 500, 3)]:
            order = order_by_words(graph)
            edges = [(source, target) for source in order for target in graph[1][source] if target != "exit"]
            self.assertEqual(edges_of(graph), edges, graph)
            self.assertEqual(
                retreating_edges(graph), [edge for edge in edges if order.index(edge[1]) <= order.index(edge[0])])
            self.assertEqual(list(loops_of(graph).items()), list(loops_by_words(graph).items()), graph)


class Witnesses(GraphTest):
    """Point 25."""

    def assert_witness(self, graph, header, cycle, path, other):
        expected = header, tuple(cycle.split()), tuple(path.split()), tuple(other.split())
        self.assertEqual(witness_of(graph), expected)
        self.assertIs(is_reducible(graph), False)

    def test_reducible_graphs(self):
        for graph in (NOTHING, STRAIGHT, JOIN, LOOP, NESTED, made("a: a"), made("a: a b, b: a b"),
                      ("exit", TWO_ENTRIES[1])):
            self.assertIs(is_reducible(graph), True)
            self.assertIsNone(witness_of(graph))

    def test_the_example_of_the_interface(self):
        self.assert_witness(TWO_ENTRIES, "c", "c b", "a c", "a b")

    def test_a_cycle_that_is_not_reachable(self):
        self.assertIsNone(witness_of(made("a: exit, x: b c, b: c, c: b")))
        self.assertIs(is_reducible(made("a: exit, x: b c, b: c, c: b")), True)

    def test_an_edge_into_a_loop_from_nodes_that_are_not_reachable(self):
        self.assertIsNone(witness_of(made("a: b, b: c d, c: b, d: exit, x: c")))

    def test_longer_ways_of_the_search(self):
        graph = made("a: e f, e: b, f: c, c: d, d: b g, b: c, g: exit")
        self.assert_witness(graph, "c", "c d b", "a f c", "a e b")

    def test_the_paths_are_those_of_the_search_and_not_the_shortest_ones(self):
        # The search finds c by d and b by e, though edges lead from a to c and from c to b.
        graph = made("a: x d, x: c b, d: c, c: b e, e: b, b: c")
        self.assert_witness(graph, "c", "c e b", "a d c", "a x b")

    def test_an_edge_of_an_earlier_source_whose_target_dominates_it_is_passed_over(self):
        graph = made("a: b d, b: c exit, c: b, d: e c, e: d exit")
        self.assertEqual(order_of(graph), ("a", "d", "e", "c", "b"))
        self.assertEqual(retreating_edges(graph), [("e", "d"), ("b", "c")])
        self.assert_witness(graph, "c", "c b", "a d c", "a b")

    def test_of_several_edges_that_of_the_first_source_in_order_counts(self):
        graph = made("a: b c, b: d e, c: f g, d: e, e: d, f: g, g: f")
        self.assertEqual(order_of(graph), ("a", "b", "e", "d", "c", "g", "f"))
        self.assertEqual(retreating_edges(graph), [("d", "e"), ("f", "g")])
        self.assert_witness(graph, "e", "e d", "a b e", "a b d")

    def test_the_then_target_counts_ahead_of_the_else_target(self):
        # Both edges of d are wrong: one enters b from behind, the other one c.
        start = "a: d e, e: b exit, b: c exit, c: d exit"
        self.assert_witness(made(f"{start}, d: c b"), "c", "c d", "a e b c", "a d")
        self.assert_witness(made(f"{start}, d: b c"), "b", "b c d", "a e b", "a d")

    def test_an_edge_of_the_same_source_whose_target_dominates_it_is_passed_over(self):
        graph = made("a: d e, e: b exit, b: c exit, c: d exit, d: a b")
        self.assertEqual(retreating_edges(graph), [("d", "a"), ("d", "b")])
        self.assert_witness(graph, "b", "b c d", "a e b", "a d")
        graph = made("a: d e, e: b exit, b: c exit, c: d exit, d: d b")
        self.assertEqual(retreating_edges(graph), [("d", "d"), ("d", "b")])
        self.assert_witness(graph, "b", "b c d", "a e b", "a d")

    def test_a_shortest_other_path_is_taken(self):
        # Three ways lead to t without h; the one with the most then-targets is the longest.
        graph = made("a: b h, b: c d, c: e, d: t, e: t, h: t, t: h")
        self.assert_witness(graph, "h", "h t", "a h", "a b d t")

    def test_of_several_shortest_paths_the_one_with_the_then_target(self):
        start = "s: a h, h: t, t: h, c: t, d: t"
        self.assert_witness(made(f"{start}, a: c d", "s"), "h", "h t", "s h", "s a c t")
        self.assert_witness(made(f"{start}, a: d c", "s"), "h", "h t", "s h", "s a d t")

    def test_the_place_where_shortest_paths_first_differ_counts(self):
        # Two paths of five nodes: by b, then the else-target; and by c, then the then-target.
        graph = made("s: a h, a: b c, b: x d, d: t, c: e x, e: t, x: exit, h: t, t: h", "s")
        self.assert_witness(graph, "h", "h t", "s h", "s a b d t")
        graph = made("s: a h, a: c b, b: x d, d: t, c: e x, e: t, x: exit, h: t, t: h", "s")
        self.assert_witness(graph, "h", "h t", "s h", "s a c e t")

    def test_the_other_path_does_not_pass_through_the_header(self):
        graph = made("a: b h, b: h c, c: d, d: t, h: t, t: h")
        self.assert_witness(graph, "h", "h t", "a h", "a b c d t")

    def test_a_cycle_with_more_than_two_entries(self):
        graph = made("a: b e, e: c d, b: c, c: d, d: b")
        self.assertEqual(order_of(graph), ("a", "e", "d", "b", "c"))
        self.assert_witness(graph, "d", "d b c", "a e d", "a b c")
        self.assertEqual(loops_of(graph), {"d": ("a", "e", "d", "b", "c")})

    def test_an_entry_on_the_cycle_makes_it_reducible(self):
        self.assertIsNone(witness_of(made("a: b c, b: a, c: a")))
        self.assertIsNone(witness_of(made("b: c, c: b", "b")))

    def test_a_loop_that_is_entered_in_its_middle(self):
        self.assert_witness(made("a: c b, b: c, c: b exit"), "b", "b c", "a b", "a c")

    def assert_as_by_words(self, graph):
        witness = witness_of(graph)
        self.assertEqual(witness, witness_by_words(graph), graph)
        self.assertIs(is_reducible(graph), witness is None)
        self.assertIs(is_reducible(graph), reducible_by_cycles(graph), graph)

    def test_all_graphs_of_three_nodes(self):
        for graph in all_graphs_of_three():
            self.assert_as_by_words(graph)

    def test_some_graphs_of_four_to_six_nodes(self):
        for labels in ("abcd", "abcde", "abcdef"):
            for graph in some_graphs(labels, 300, len(labels)):
                self.assert_as_by_words(graph)

    def test_the_parts_of_a_witness(self):
        """The cycle is a path from h to t, an edge leads back, and two paths enter it apart from each other."""
        wrong = [graph for graph in some_graphs("abcdefgh", 600, 7) if not is_reducible(graph)]
        self.assertGreater(len(wrong), 100)
        for entry, targets in wrong:
            header, cycle, path, other = witness_of((entry, targets))
            self.assertEqual((cycle[0], path[-1], other[-1]), (header, header, cycle[-1]))
            self.assertEqual((path[0], other[0]), (entry, entry))
            self.assertIn(header, targets[cycle[-1]])
            self.assertNotIn(header, other)
            for way in (cycle, path, other):
                for source, target in zip(way, way[1:]):
                    self.assertIn(target, targets[source])


if __name__ == "__main__":
    unittest.main()

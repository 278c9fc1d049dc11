"""Point 26 and the part restruct/structuring.py of the interface."""

import copy
import unittest
from itertools import product

from restruct.errors import NotReducible
from restruct.lowering import lowered
from restruct.nodes import parse_node
from restruct.programs import Program, normalized
from restruct.statements import body_text, parse_body
from restruct.structuring import structured
from test_graphs import dominators_by_words, order_by_words, reducible_by_cycles, some_graphs
from test_lowering import nodes_by_words

X = ("variable", "x")


def program_of(graph):
    """The program of a graph, with an "if" at each node that has two targets."""
    entry, targets = graph
    nodes = [(label, ("print", X) if len(row) == 1 else ("if", X), row) for label, row in targets.items()]
    return normalized(entry, nodes)


def body_by_words(program):
    """The body that point 26 describes, for small programs; None if the program is not reducible."""
    graph = program.graph()
    order = order_by_words(graph)
    dominators = dominators_by_words(graph)
    edges = [(one, other) for one in order for other in graph[1][one] if other != "exit"]

    def retreats(one, other):
        return order.index(other) <= order.index(one)

    if any(retreats(one, other) and other not in dominators[one] + (one,) for one, other in edges):
        return None
    forward = [other for one, other in edges if not retreats(one, other)]

    def code(label, behind):
        inner = inner_code(label, behind)
        is_header = any(other == label and retreats(one, other) for one, other in edges)
        return [("loop", label, inner)] if is_header else list(inner)

    def inner_code(label, behind):
        merges = [one for one in order if forward.count(one) >= 2 and dominators[one][-1] == label]
        rest = merges + [behind]
        said = own_code(label, rest.pop(0))
        for merge in merges:
            if breaks_to(said, merge):
                said = [("block", merge, tuple(said))]
            said = said + code(merge, rest.pop(0))
        return tuple(said)

    def own_code(label, behind):
        _, deed, targets = program.node(label)
        branches = [edge_code(label, target, behind) for target in targets]
        if deed[0] == "if":
            return [("if", label, deed[1], *map(tuple, branches))]
        return [("node", label, deed)] + branches[0]

    def edge_code(label, target, behind):
        if target == behind:
            return []
        if target == "exit":
            return [("exit",)]
        if retreats(label, target):
            return [("continue", target)]
        if forward.count(target) >= 2:
            return [("break", target)]
        return code(target, behind)

    return tuple(code(program.entry, "exit")) if order else ()


def breaks_to(body, name):
    found = False
    for statement in body:
        if statement[0] == "break":
            found = found or statement[1] == name
        elif statement[0] == "if":
            found = found or breaks_to(statement[3], name) or breaks_to(statement[4], name)
        elif statement[0] in ("block", "loop") and statement[1] != name:
            found = found or breaks_to(statement[2], name)
    return found


def statements_of(body):
    """All statements of a body, each ahead of those within it."""
    for statement in body:
        yield statement
        bodies = {"if": statement[3:], "block": statement[2:], "loop": statement[2:]}.get(statement[0], ())
        for inner in bodies:
            yield from statements_of(inner)


class StructuringTest(unittest.TestCase):

    def parse(self, text):
        lines = text.split("; ")
        return Program.parse("\n".join([f"entry {lines[0].partition(':')[0]}", *lines]))

    def assert_body(self, text, *lines):
        """The program with these nodes, the first one at the entry, has a body with these lines."""
        program = self.parse(text)
        body = structured(program)
        expected = parse_body("\n".join(lines))
        self.assertEqual(body_text(body), body_text(expected), text)
        self.assertEqual(body, expected, text)
        self.assertEqual(normalized(*lowered(body)), program, text)

    def assert_not_reducible(self, text):
        with self.assertRaises(NotReducible, msg=text):
            structured(self.parse(text))


class Bodies(StructuringTest):

    def test_the_empty_body(self):
        self.assertEqual(structured(Program("exit", ())), ())
        self.assertEqual(structured(Program.parse("entry exit\na: x = 1 goto a")), ())

    def test_one_behind_the_other(self):
        self.assert_body("a: x = 1 goto exit", "a: x = 1")
        self.assert_body("a: x = 1 goto b; b: print x goto c; c: x = 2 goto exit", "a: x = 1", "b: print x", "c: x = 2")

    def test_kinds_of_values(self):
        body = structured(self.parse("a: if x goto b else c; b: x = 1 goto c; c: if y goto c else exit"))
        self.assertEqual(body, (
            ("if", "a", X, (("node", "b", ("set", "x", ("number", 1))),), ()),
            ("loop", "c", (("if", "c", ("variable", "y"), (("continue", "c"),), ()),))))

    def test_the_program_stays_as_it_is(self):
        program = self.parse("a: if x goto b else c; b: x = 1 goto c; c: if y goto a else exit")
        before = copy.deepcopy((program.entry, program.nodes, program.text))
        structured(program)
        self.assertEqual((program.entry, program.nodes, program.text), before)

    def test_branches(self):
        self.assert_body("a: if x goto b else c; b: print x goto exit; c: print y goto exit",
                         "a: if x {", "b: print x", "} else {", "c: print y", "}")
        self.assert_body("a: if x goto b else exit; b: print x goto exit", "a: if x {", "b: print x", "}")
        self.assert_body("a: if x goto exit else b; b: print x goto exit", "a: if x {", "} else {", "b: print x", "}")
        self.assert_body("a: if x goto exit else exit", "a: if x {", "}")

    def test_branches_within_branches(self):
        self.assert_body("a: if x goto b else c; b: if y goto d else e; c: print c goto exit; d: print d goto exit; "
                         "e: print e goto exit", "a: if x {", "b: if y {", "d: print d", "} else {", "e: print e", "}",
                         "} else {", "c: print c", "}")


class Merges(StructuringTest):

    def test_a_merge_node_behind_both_branches(self):
        self.assert_body("a: if x goto b else c; b: print b goto d; c: print c goto d; d: print d goto exit",
                         "a: if x {", "b: print b", "} else {", "c: print c", "}", "d: print d")

    def test_a_merge_node_behind_one_branch(self):
        self.assert_body("a: if x goto b else c; b: print b goto c; c: print c goto exit",
                         "a: if x {", "b: print b", "}", "c: print c")
        self.assert_body("a: if x goto c else b; b: print b goto c; c: print c goto exit",
                         "a: if x {", "} else {", "b: print b", "}", "c: print c")

    def test_two_edges_of_one_node_to_the_same_target_count_as_two(self):
        self.assert_body("a: if x goto b else b; b: print b goto exit", "a: if x {", "}", "b: print b")
        self.assert_body("a: if x goto b else c; b: if y goto d else d; c: print c goto exit; d: print d goto exit",
                         "a: if x {", "b: if y {", "}", "d: print d", "} else {", "c: print c", "}")

    def test_one_forward_edge_makes_no_merge_node(self):
        # b has a retreating edge, too, but just one that is forward.
        self.assert_body("a: x = 1 goto b; b: if x goto b else exit",
                         "a: x = 1", "loop b {", "b: if x {", "continue b", "}", "}")

    def test_edges_to_the_exit_make_no_merge_node(self):
        self.assert_body("a: if x goto b else c; b: if y goto exit else d; c: print c goto exit; d: print d goto exit",
                         "a: if x {", "b: if y {", "} else {", "d: print d", "}", "} else {", "c: print c", "}")

    def test_several_merge_nodes_of_one_node_in_order(self):
        # d stands ahead of e, so the edges to e are breaks.
        self.assert_body("a: if x goto b else c; b: if y goto d else e; c: if y goto d else e; d: print d goto e; "
                         "e: print e goto exit",
                         "block e {", "a: if x {", "b: if y {", "} else {", "break e", "}", "} else {", "c: if y {",
                         "} else {", "break e", "}", "}", "d: print d", "}", "e: print e")

    def test_three_merge_nodes_of_one_node(self):
        self.assert_body("a: if w goto b else c; b: if x goto d else e; c: if x goto e else f; d: print d goto e; "
                         "e: if y goto f else g; f: print f goto g; g: print g goto exit",
                         "block g {", "block f {", "a: if w {", "b: if x {", "d: print d", "}", "} else {",
                         "c: if x {", "} else {", "break f", "}", "}", "e: if y {", "} else {", "break g", "}", "}",
                         "f: print f", "}", "g: print g")

    def test_a_block_goes_around_everything_ahead_of_the_merge_node(self):
        self.assert_body("a: if w goto b else c; b: if x goto d else e; c: if x goto e else d; e: print e goto f; "
                         "d: if y goto exit else f; f: print f goto exit",
                         "block f {", "block d {", "a: if w {", "b: if x {", "break d", "}", "} else {", "c: if x {",
                         "} else {", "break d", "}", "}", "e: print e", "break f", "}", "d: if y {", "exit", "}",
                         "}", "f: print f")

    def test_no_block_without_a_break(self):
        self.assert_body("a: if x goto b else c; b: print b goto c; c: if y goto d else e; d: print d goto e; "
                         "e: print e goto exit",
                         "a: if x {", "b: print b", "}", "c: if y {", "d: print d", "}", "e: print e")

    def test_merge_nodes_of_nodes_within_branches(self):
        self.assert_body("a: if x goto b else f; b: if y goto c else d; c: print c goto e; d: print d goto e; "
                         "e: print e goto f; f: print f goto exit",
                         "a: if x {", "b: if y {", "c: print c", "} else {", "d: print d", "}", "e: print e", "}",
                         "f: print f")

    def test_a_break_out_of_a_branch_with_a_merge_node_of_its_own(self):
        self.assert_body("a: if x goto b else f; b: if y goto c else f; c: if z goto d else e; d: print d goto e; "
                         "e: print e goto f; f: print f goto exit",
                         "a: if x {", "b: if y {", "c: if z {", "d: print d", "}", "e: print e", "}", "}",
                         "f: print f")
        self.assert_body("a: if x goto b else f; b: if y goto c else d; c: if z goto d else f; d: print d goto f; "
                         "f: print f goto exit",
                         "block f {", "a: if x {", "b: if y {", "c: if z {", "} else {", "break f", "}", "}",
                         "d: print d", "}", "}", "f: print f")

    def test_an_edge_to_the_exit_ahead_of_a_merge_node(self):
        self.assert_body("a: if x goto b else c; b: if y goto d else exit; c: print c goto d; d: print d goto exit",
                         "a: if x {", "b: if y {", "} else {", "exit", "}", "} else {", "c: print c", "}",
                         "d: print d")
        self.assert_body("a: if x goto b else c; b: print b goto exit; c: if y goto d else d; d: print d goto exit",
                         "a: if x {", "b: print b", "} else {", "c: if y {", "}", "d: print d", "}")


class Loops(StructuringTest):

    def test_a_node_that_repeats_itself(self):
        self.assert_body("a: print x goto a", "loop a {", "a: print x", "continue a", "}")
        self.assert_body("a: if x goto a else exit", "loop a {", "a: if x {", "continue a", "}", "}")
        self.assert_body("a: if x goto a else a", "loop a {", "a: if x {", "continue a", "} else {", "continue a", "}",
                         "}")

    def test_what_follows_a_loop_stands_in_it(self):
        # The loop holds the inner code of its header, so all that is dominated by it.
        self.assert_body("a: print a goto b; b: if x goto a else c; c: print c goto exit",
                         "loop a {", "a: print a", "b: if x {", "continue a", "} else {", "c: print c", "}", "}")

    def test_loops_within_loops(self):
        self.assert_body("a: if x goto b else exit; b: if y goto a else b",
                         "loop a {", "a: if x {", "loop b {", "b: if y {", "continue a", "} else {", "continue b", "}",
                         "}", "}", "}")
        self.assert_body("a: print a goto b; b: print b goto c; c: if x goto b else d; d: if y goto a else exit",
                         "loop a {", "a: print a", "loop b {", "b: print b", "c: if x {", "continue b", "} else {",
                         "d: if y {", "continue a", "}", "}", "}", "}")

    def test_several_retreating_edges_to_one_header(self):
        self.assert_body("a: if x goto b else c; b: print b goto a; c: if y goto a else exit",
                         "loop a {", "a: if x {", "b: print b", "continue a", "} else {", "c: if y {", "continue a",
                         "}", "}", "}")

    def test_a_loop_header_that_is_a_merge_node(self):
        self.assert_body("a: if x goto b else c; b: print b goto c; c: if y goto c else exit",
                         "a: if x {", "b: print b", "}", "loop c {", "c: if y {", "continue c", "}", "}")

    def test_a_block_ahead_of_a_loop_header_that_is_a_merge_node(self):
        self.assert_body("a: if w goto b else c; b: if x goto d else e; c: if x goto d else e; d: print d goto e; "
                         "e: if y goto e else exit",
                         "block e {", "a: if w {", "b: if x {", "} else {", "break e", "}", "} else {", "c: if x {",
                         "} else {", "break e", "}", "}", "d: print d", "}", "loop e {", "e: if y {", "continue e",
                         "}", "}")

    def test_a_merge_node_within_a_loop(self):
        self.assert_body("a: if x goto b else c; b: print b goto d; c: print c goto d; d: if y goto a else exit",
                         "loop a {", "a: if x {", "b: print b", "} else {", "c: print c", "}", "d: if y {",
                         "continue a", "}", "}")
        self.assert_body("a: if x goto b else c; b: if y goto d else c; c: if z goto c else d; d: print d goto a",
                         "loop a {", "block d {", "a: if x {", "b: if y {", "break d", "}", "}", "loop c {",
                         "c: if z {", "continue c", "}", "}", "}", "d: print d", "continue a", "}")

    def test_a_break_out_of_a_loop(self):
        self.assert_body("a: if x goto b else c; b: print b goto c; c: if y goto d else e; d: if z goto c else e; "
                         "e: print e goto exit",
                         "a: if x {", "b: print b", "}", "loop c {", "c: if y {", "d: if z {", "continue c", "}", "}",
                         "e: print e", "}")
        self.assert_body("a: if w goto b else c; b: if x goto b else d; c: if y goto e else d; d: print d goto e; "
                         "e: print e goto exit",
                         "block e {", "a: if w {", "loop b {", "b: if x {", "continue b", "}", "}", "} else {",
                         "c: if y {", "break e", "}", "}", "d: print d", "}", "e: print e")

    def test_leaving_loops_within_one_another(self):
        self.assert_body("a: print a goto b; b: if x goto c else d; c: if y goto b else a; d: print d goto exit",
                         "loop a {", "a: print a", "loop b {", "b: if x {", "c: if y {", "continue b", "} else {",
                         "continue a", "}", "} else {", "d: print d", "}", "}", "}")

    def test_the_exit_within_a_loop(self):
        self.assert_body("a: if x goto exit else b; b: if y goto c else c; c: print c goto a",
                         "loop a {", "a: if x {", "} else {", "b: if y {", "}", "c: print c", "continue a", "}", "}")
        self.assert_body("a: if x goto b else c; b: if y goto exit else c; c: print c goto a",
                         "loop a {", "a: if x {", "b: if y {", "exit", "}", "}", "c: print c", "continue a", "}")

    def test_labels_with_a_dot(self):
        self.assert_body("a.2: if x goto a.2 else a; a: if x goto b.3 else b.3; b.3: print x goto exit",
                         "loop a.2 {", "a.2: if x {", "continue a.2", "} else {", "a: if x {", "}", "b.3: print x",
                         "}", "}")


class Irreducible(StructuringTest):

    def test_a_cycle_with_two_entries(self):
        self.assert_not_reducible("a: if x goto b else c; b: print b goto c; c: print c goto b")
        self.assert_not_reducible("a: if x goto b else c; b: print b goto c; c: if y goto b else exit")

    def test_within_a_loop(self):
        self.assert_not_reducible("a: if x goto b else c; b: if y goto a else c; c: if y goto b else a")

    def test_a_cycle_that_is_not_reachable_is_no_cycle(self):
        program = Program.parse("entry d\na: if x goto b else c\nb: x = 1 goto c\nc: x = 1 goto b\nd: x = 1 goto exit")
        self.assertEqual(body_text(structured(program)), "d: x = 1")

    def test_just_the_programs_that_are_not_reducible(self):
        for graph in some_graphs("abcde", 400, 3):
            program = program_of(graph)
            if reducible_by_cycles(graph):
                structured(program)
            else:
                with self.assertRaises(NotReducible):
                    structured(program)


class Everywhere(StructuringTest):
    """Many small programs."""

    def check(self, program):
        """The body is that of the words, and lowering it gives the program, node for node."""
        expected = body_by_words(program)
        if expected is None:
            with self.assertRaises(NotReducible, msg=program.text):
                structured(program)
            return False
        body = structured(program)
        self.assertEqual(body, expected, program.text)
        entry, nodes = lowered(body)
        self.assertEqual(entry, program.entry, program.text)
        self.assertEqual(sorted(nodes), sorted(program.nodes), program.text)
        self.assertEqual(parse_body(body_text(body)), body)
        self.assertEqual(Program.parse(body_text(body)), program)
        return True

    def test_all_programs_of_up_to_two_nodes_and_many_of_three(self):
        targets = ("a", "b", "c", "exit")
        rows = [(target,) for target in targets] + list(product(targets, repeat=2))
        reducible = 0
        for first, second in product(rows, repeat=2):
            for third in (rows[2], rows[3], rows[5], rows[8], rows[15]):
                reducible += self.check(program_of(("a", {"a": first, "b": second, "c": third})))
        self.assertGreater(reducible, 1000)

    def test_lowering_gives_back_all_programs_of_three_nodes(self):
        targets = ("a", "b", "c", "exit")
        rows = [(target,) for target in targets] + list(product(targets, repeat=2))
        refused = 0
        for row in product(rows, repeat=3):
            program = program_of(("a", dict(zip("abc", row))))
            try:
                body = structured(program)
            except NotReducible:
                refused += 1
            else:
                self.assertEqual(normalized(*lowered(body)), program)
        self.assertEqual(refused, 128)

    def test_some_programs_of_more_nodes(self):
        reducible = 0
        for labels, start in (("abcd", 21), ("abcde", 22), ("abcdef", 23)):
            for graph in some_graphs(labels, 400, start):
                reducible += self.check(program_of(graph))
        self.assertGreater(reducible, 800)

    def test_the_lines_of_the_text_lead_where_the_program_leads(self):
        for graph in some_graphs("abcdef", 300, 24):
            program = program_of(graph)
            if body_by_words(program) is not None:
                entry, nodes = nodes_by_words(structured(program))
                self.assertEqual(entry, program.entry)
                self.assertEqual(nodes, {label: (deed, targets) for label, deed, targets in program.nodes})

    def test_each_name_stands_once(self):
        for graph in some_graphs("abcdef", 300, 25):
            program = program_of(graph)
            if body_by_words(program) is not None:
                names = [statement[:2] for statement in statements_of(structured(program))
                         if statement[0] in ("node", "if", "block", "loop")]
                self.assertEqual(len(names), len(set(names)), program.text)
                labels = [name for kind, name in names if kind in ("node", "if")]
                self.assertEqual(sorted(labels), sorted(program))

    def test_long_programs(self):
        labels = [f"n.{number}" for number in range(2, 62)]
        lines = [f"{label}: if x goto {behind} else n.2" for label, behind in zip(labels, labels[1:] + ["exit"])]
        program = Program("n.2", tuple(parse_node(line) for line in lines))
        self.assertEqual(len(body_text(structured(program)).split("\n")), 2 + 4 * 60)
        names = [statement[:2] for statement in statements_of(structured(program)) if statement[0] != "continue"]
        self.assertEqual(names, [("loop", "n.2")] + [("if", label) for label in labels])


if __name__ == "__main__":
    unittest.main()

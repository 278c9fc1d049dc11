"""The part restruct/scopes.py of the interface, which point 32 builds on."""

import copy
import unittest

from restruct.errors import NotReducible
from restruct.programs import Program
from restruct.scopes import scopes_of
from restruct.statements import body_text, parse_body
from restruct.structuring import structured
from test_graphs import some_graphs
from test_lowering import Maker
from test_structuring import program_of


def scopes_by_lines(lines, label):
    """What is open at the line of a label, looked at line by line."""
    opened = []
    for line in lines:
        words = line.replace(":", " :").split()
        if words == ["}", "else", "{"]:
            continue
        if words == ["}"]:
            opened.pop()
            continue
        if words[:2] == [label, ":"]:
            return tuple(opened)
        if words[-1] == "{":
            opened.append((words[0], words[1]) if words[1] != ":" else ("if", words[0]))
    return ()


class Scopes(unittest.TestCase):

    def assert_scopes(self, text, label, *scopes):
        body = parse_body(text.replace("; ", "\n"))
        self.assertEqual(scopes_of(body, label), scopes, (text, label))

    def test_nothing_around(self):
        self.assert_scopes("a: x = 1", "a")
        self.assert_scopes("a: if x {; b: x = 1; }; c: x = 1", "c")
        self.assert_scopes("block b {; a: x = 1; }; loop r {; d: x = 1; }; c: x = 1", "c")

    def test_a_conditional_is_not_around_its_own_node(self):
        self.assert_scopes("a: if x {; b: x = 1; }", "a")
        self.assert_scopes("a: if x {; b: if y {; }; }", "b", ("if", "a"))

    def test_both_branches(self):
        text = "a: if x {; b: x = 1; } else {; c: x = 1; }"
        self.assert_scopes(text, "b", ("if", "a"))
        self.assert_scopes(text, "c", ("if", "a"))

    def test_blocks_and_loops(self):
        text = "block b {; a: x = 1; loop r {; c: x = 1; }; d: x = 1; }"
        self.assert_scopes(text, "a", ("block", "b"))
        self.assert_scopes(text, "c", ("block", "b"), ("loop", "r"))
        self.assert_scopes(text, "d", ("block", "b"))

    def test_the_outermost_first(self):
        text = "loop r {; a: if x {; block b.2 {; c: if y {; } else {; loop s {; d: x = 1; }; }; }; }; }"
        self.assert_scopes(text, "a", ("loop", "r"))
        self.assert_scopes(text, "c", ("loop", "r"), ("if", "a"), ("block", "b.2"))
        self.assert_scopes(text, "d", ("loop", "r"), ("if", "a"), ("block", "b.2"), ("if", "c"), ("loop", "s"))

    def test_names_that_are_labels(self):
        text = "loop a {; a: if x {; continue a; }; block b {; b: x = 1; }; }"
        self.assert_scopes(text, "a", ("loop", "a"))
        self.assert_scopes(text, "b", ("loop", "a"), ("block", "b"))

    def test_jumps_are_no_nodes(self):
        self.assert_scopes("block b {; break b; }; b: x = 1", "b")
        self.assert_scopes("loop b {; a: if x {; continue b; }; exit; }; b: x = 1", "b")

    def test_equal_names_side_by_side(self):
        text = "block b {; a: x = 1; }; loop b {; c: x = 1; }; block b {; d: x = 1; }"
        self.assert_scopes(text, "a", ("block", "b"))
        self.assert_scopes(text, "c", ("loop", "b"))
        self.assert_scopes(text, "d", ("block", "b"))

    def test_bodies_that_are_structured(self):
        program = Program.parse("entry a\na: if w goto b else c\nb: if x goto d else e\nc: if x goto d else e\n"
                                "d: print d goto e\ne: if y goto e else exit")
        body = structured(program)
        self.assertEqual({label: scopes_of(body, label) for label in program}, {
            "a": (("block", "e"),), "b": (("block", "e"), ("if", "a")), "c": (("block", "e"), ("if", "a")),
            "d": (("block", "e"),), "e": (("loop", "e"),)})

    def test_line_by_line(self):
        for start in range(200):
            maker = Maker(start)
            body = maker.body(5, ())
            lines = body_text(body).split("\n")
            for number in range(2, maker.labels + 2):
                label = f"n.{number}"
                self.assertEqual(scopes_of(body, label), scopes_by_lines(lines, label), (start, label))

    def test_the_innermost_statement_of_each_node_of_a_program(self):
        for graph in some_graphs("abcdef", 200, 41):
            program = program_of(graph)
            try:
                body = structured(program)
            except NotReducible:
                continue
            for label in program:
                self.assertEqual(scopes_of(body, label), scopes_by_lines(body_text(body).split("\n"), label))

    def test_kinds_of_values(self):
        body = parse_body("block b {\na: if x {\nc: x = 1\n}\n}")
        for label in "ac":
            self.assertIs(type(scopes_of(body, label)), tuple)
            for pair in scopes_of(body, label):
                self.assertEqual((type(pair), len(pair)), (tuple, 2))

    def test_the_body_stays_as_it_is(self):
        body = parse_body("block b {\na: if x {\nc: x = 1\n}\n}")
        before = copy.deepcopy(body)
        scopes_of(body, "c")
        self.assertEqual(body, before)


if __name__ == "__main__":
    unittest.main()

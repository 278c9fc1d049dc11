"""Points 6, 11, 14 and 15 as far as they are about one node, and the part restruct/nodes.py of the interface."""

import copy
import unittest

from restruct.errors import BadLine
from restruct.nodes import node_text, parse_node

KEYWORDS = "entry goto else if print block loop break continue exit".split()
A, B, X, Y = [("variable", name) for name in "abxy"]
ONE = ("number", 1)
HIGHEST = "a" + " + b" * 19


class NodeTest(unittest.TestCase):

    def assert_node(self, line, label, deed, *targets):
        self.assertEqual(parse_node(line), (label, deed, targets), line)

    def assert_wrong(self, *lines):
        for line in lines:
            with self.assertRaises(BadLine, msg=repr(line)):
                parse_node(line)


class Forms(NodeTest):

    def test_a_set(self):
        self.assert_node("a: x = 1 goto b", "a", ("set", "x", ONE), "b")
        self.assert_node("b: x = x - y * 1 goto a", "b", ("set", "x", ("-", X, ("*", Y, ONE))), "a")

    def test_a_print(self):
        self.assert_node("a: print x goto b", "a", ("print", X), "b")
        self.assert_node("a: print (x + y) * 1 goto b", "a", ("print", ("*", ("+", X, Y), ONE)), "b")

    def test_an_if(self):
        self.assert_node("a: if x goto b else c", "a", ("if", X), "b", "c")
        self.assert_node("a: if x < y goto b else c", "a", ("if", ("<", X, Y)), "b", "c")
        self.assert_node("a: if x = y goto b else b", "a", ("if", ("=", X, Y)), "b", "b")

    def test_a_comparison_that_is_set(self):
        self.assert_node("a: x = y = 1 goto b", "a", ("set", "x", ("=", Y, ONE)), "b")
        self.assert_node("a: x = x = x goto b", "a", ("set", "x", ("=", X, X)), "b")
        self.assert_node("a: x = y < 1 goto b", "a", ("set", "x", ("<", Y, ONE)), "b")
        self.assert_wrong("a: x = x = x = x goto b")

    def test_the_exit_as_a_target(self):
        self.assert_node("a: x = 1 goto exit", "a", ("set", "x", ONE), "exit")
        self.assert_node("a: print x goto exit", "a", ("print", X), "exit")
        self.assert_node("a: if x goto exit else b", "a", ("if", X), "exit", "b")
        self.assert_node("a: if x goto b else exit", "a", ("if", X), "b", "exit")
        self.assert_node("a: if x goto exit else exit", "a", ("if", X), "exit", "exit")

    def test_the_node_itself_as_a_target(self):
        self.assert_node("a: x = 1 goto a", "a", ("set", "x", ONE), "a")
        self.assert_node("a: if x goto a else a", "a", ("if", X), "a", "a")

    def test_labels_with_a_dot_and_a_number(self):
        self.assert_node("a.2: x = 1 goto b.99", "a.2", ("set", "x", ONE), "b.99")
        self.assert_node("abcdefgh.10: if x goto c.3 else d", "abcdefgh.10", ("if", X), "c.3", "d")
        self.assert_node("a: if x goto c else d.4", "a", ("if", X), "c", "d.4")

    def test_a_label_may_be_that_of_a_variable(self):
        self.assert_node("x: x = x goto x", "x", ("set", "x", X), "x")

    def test_words_that_only_begin_like_keywords(self):
        self.assert_node("exits: gotoa = printx goto iff", "exits", ("set", "gotoa", ("variable", "printx")), "iff")
        self.assert_node("a: printx = 1 goto b", "a", ("set", "printx", ONE), "b")
        self.assert_node("a: iff = 1 goto b", "a", ("set", "iff", ONE), "b")

    def test_spaces_mean_nothing(self):
        for line in ("a:x=1goto b", " a : x = 1 goto b ", "   a:   x=1   goto   b   "):
            self.assert_node(line, "a", ("set", "x", ONE), "b")
        for line in ("a:if(x)goto b else c", "  a :if x goto b  else  c "):
            self.assert_node(line, "a", ("if", X), "b", "c")
        self.assert_node("a.2:x=1goto b.3", "a.2", ("set", "x", ONE), "b.3")

    def test_kinds_of_values(self):
        for line in ("a: x = 1 goto b", "a: print x goto b", "a: if x goto b else c"):
            node = parse_node(line)
            self.assertEqual([type(part) for part in node], [str, tuple, tuple])


class WrongLines(NodeTest):

    def test_blank_lines_and_other_lines(self):
        self.assert_wrong("", " ", "     ", "x", "1", ":", "}", "{")

    def test_an_entry_line(self):
        self.assert_wrong("entry a", "entry exit", "entry: a", "entry")

    def test_lines_of_the_other_form(self):
        self.assert_wrong("a: x = 1", "a: print x", "a: if x {", "block b {", "loop r {", "break b", "continue r",
                          "exit", "}", "} else {")

    def test_keywords_as_labels(self):
        for keyword in KEYWORDS:
            for label in (keyword, f"{keyword}.2"):
                self.assert_wrong(f"{label}: x = 1 goto b", f"{label}: print x goto b",
                                  f"{label}: if x goto b else c")

    def test_keywords_as_targets(self):
        for keyword in KEYWORDS:
            words = [f"{keyword}.2"] if keyword == "exit" else [keyword, f"{keyword}.2"]
            for word in words:
                self.assert_wrong(f"a: x = 1 goto {word}", f"a: print x goto {word}",
                                  f"a: if x goto {word} else c", f"a: if x goto b else {word}")

    def test_keywords_as_variables(self):
        for keyword in KEYWORDS:
            self.assert_wrong(f"a: {keyword} = 1 goto b", f"a: x = {keyword} goto b", f"a: print {keyword} goto b",
                              f"a: if {keyword} goto b else c", f"a: {keyword}.2 = 1 goto b")

    def test_variables_with_a_dot(self):
        self.assert_wrong("a: x.2 = 1 goto b", "a: x = y.2 goto b", "a: print x.2 goto b", "a: if x.2 goto b else c",
                          "a: print.2 x goto b", "a: if.2 x goto b else c")

    def test_each_sign_is_needed(self):
        for line in ("a : x = 1 goto b", "a : print x goto b", "a : if x goto b else c", "a : x = y + 1 goto exit",
                     "a.2 : x = ( y ) goto b.2"):
            signs = line.split()
            for at in range(len(signs)):
                self.assert_wrong(" ".join(signs[:at] + signs[at + 1:]), " ".join(signs[:at]))

    def test_surplus_signs(self):
        for line in ("a: x = 1 goto b", "a: print x goto b", "a: if x goto b else c"):
            for surplus in (":", "a", "1", "}", "{", ")", "(", "goto", "goto c", "else", "else c", "exit", "=", "a.2"):
                self.assert_wrong(f"{line} {surplus}", f"{surplus} {line}", line.replace(":", f": {surplus}"))

    def test_an_else_target_belongs_to_an_if_alone(self):
        self.assert_wrong("a: x = 1 goto b else c", "a: print x goto b else c", "a: if x goto b",
                          "a: if x goto b else c else d", "a: if x goto b goto c", "a: if x else b goto c")

    def test_signs_in_the_place_of_others(self):
        self.assert_wrong("1: x = 1 goto b", "a = x = 1 goto b", "a: 1 = x goto b", "a: x < 1 goto b",
                          "a: x : 1 goto b", "a: print = 1 goto b", "a: print x else b", "a: x = 1 goto 1",
                          "a: if x goto 1 else b", "a: if x goto b else 1", "a: if = 1 goto b else c",
                          "a; x = 1 goto b", "a: x == 1 goto b", "a: x = 1 gotob", "a: x = 1 goto (b)",
                          "a: (x) = 1 goto b", "(a): x = 1 goto b")

    def test_wrong_expressions(self):
        self.assert_wrong("a: x = goto b", "a: x = 1 + goto b", "a: x = (1 goto b", "a: x = 1) goto b",
                          "a: x = a < b < c goto d", "a: print a b goto c", "a: if () goto b else c",
                          "a: print -1 goto b")

    def test_an_expression_that_is_too_high(self):
        for start, end in (("a: x =", "goto b"), ("a: print", "goto b"), ("a: if", "goto b else c")):
            self.assertEqual(parse_node(f"{start} {HIGHEST} {end}")[0], "a")
            self.assert_wrong(f"{start} {HIGHEST} + b {end}")

    def test_too_many_open_parentheses(self):
        for many in (20, 21):
            line = "a: x = " + "(" * many + "1" + ")" * many + " goto b"
            if many == 20:
                self.assert_node(line, "a", ("set", "x", ONE), "b")
            else:
                self.assert_wrong(line)

    def test_wrong_signs(self):
        self.assert_wrong("A: x = 1 goto b", "a: x = 1 goto b\n", "\na: x = 1 goto b", "a: x = 1\ngoto b",
                          "a:\tx = 1 goto b", "abcdefghi: x = 1 goto b", "a: abcdefghi = 1 goto b",
                          "a: x = 1 goto abcdefghi", "a.1: x = 1 goto b", "a: x = 1 goto b.100", "a: x = 07 goto b",
                          "a: x = 1000001 goto b", "a: x = 1 goto b.", "a .2: x = 1 goto b", "a: x = 1 goto b;",
                          "a: x = 1 goto b.2.3")


class Texts(NodeTest):

    def test_each_form(self):
        for line in ("a: x = 1 goto b", "a: print x goto b", "a: if x goto b else c", "a.2: x = y goto b.99",
                     "a: if x < 1 goto exit else exit", "a: x = (y = 1) + 1 goto exit", "a: x = y = 1 goto exit"):
            self.assertEqual(node_text(parse_node(line)), line)

    def test_nodes_that_were_not_read(self):
        nodes = {
            "a: x = x - (y - 1) goto exit": ("a", ("set", "x", ("-", X, ("-", Y, ONE))), ("exit",)),
            "b.3: print (x + y) * 1 goto c": ("b.3", ("print", ("*", ("+", X, Y), ONE)), ("c",)),
            "c: if x goto exit else d.2": ("c", ("if", X), ("exit", "d.2"))}
        for text, node in nodes.items():
            self.assertEqual(node_text(node), text)

    def test_single_spaces_and_none_ahead_of_the_colon(self):
        self.assertEqual(node_text(parse_node("  a  :x=1+y  goto   b ")), "a: x = 1 + y goto b")
        self.assertEqual(node_text(parse_node("a:print((x))goto exit")), "a: print x goto exit")
        self.assertEqual(node_text(parse_node("a.2 :if(x<1)goto b  else c")), "a.2: if x < 1 goto b else c")

    def test_reading_the_text_gives_the_node(self):
        expressions = (X, ONE, ("number", 1000000), ("=", ("<", X, Y), ("=", Y, X)), ("*", X, ("*", Y, ("+", X, ONE))))
        for expression in expressions:
            for deed in (("set", "x", expression), ("print", expression)):
                for target in ("b", "b.17", "exit"):
                    node = ("a.2", deed, (target,))
                    self.assertEqual(parse_node(node_text(node)), node)
            for targets in (("b", "exit"), ("exit", "c.2"), ("b", "b")):
                node = ("a", ("if", expression), targets)
                self.assertEqual(parse_node(node_text(node)), node)

    def test_the_node_stays_as_it_is(self):
        for line in ("a: x = y + 1 goto b", "a: if x goto b else c"):
            node = parse_node(line)
            before = copy.deepcopy(node)
            node_text(node)
            self.assertEqual(node, before)


if __name__ == "__main__":
    unittest.main()

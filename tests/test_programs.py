"""Points 11 to 15, 18, 19 and 22 of whole programs, and the part restruct/programs.py of the interface."""

import copy
import unittest

from restruct import expressions, lowering, statements
from restruct.errors import SourceFault, SyntaxFault
from restruct.graphs import order_of
from restruct.lowering import lowered
from restruct.nodes import node_text, parse_node
from restruct.programs import Program, format_source
from restruct.statements import body_text, parse_body
from test_graphs import order_by_words, some_graphs

DUPLICATE = "duplicate label"
UNKNOWN = "unknown label"
TOO_MANY = "too many nodes"
HIGHEST = "x" + " + y" * 19
TOO_HIGH = HIGHEST + " + y"
LABELS = [f"n.{number}" for number in range(2, 62)]


def chain(many, start=0):
    """Lines of nodes one behind the other, as many as asked for."""
    labels = LABELS[start:start + many]
    return [f"{label}: print x goto {behind}" for label, behind in zip(labels, labels[1:] + ["exit"])]


class ProgramTest(unittest.TestCase):

    def parse(self, text):
        return Program.parse(text.replace("; ", "\n"))

    def assert_text(self, text, normal):
        """The source has a program with this normal text."""
        self.assertEqual(self.parse(text).text, normal.replace("; ", "\n"), text)

    def assert_syntax(self, text, line):
        with self.assertRaises(SyntaxFault, msg=text) as caught:
            self.parse(text)
        self.assertEqual(caught.exception.line, line, text)

    def assert_fault(self, text, reason, label=None):
        with self.assertRaises(SourceFault, msg=text) as caught:
            self.parse(text)
        self.assertEqual((caught.exception.reason, caught.exception.label), (reason, label), text)


class Made(ProgramTest):
    """The class, apart from reading."""

    def test_taken_as_they_are(self):
        nodes = (parse_node("a: if x goto b else exit"), parse_node("b: print x goto a"))
        program = Program("a", nodes)
        self.assertEqual((program.entry, program.nodes), ("a", nodes))
        self.assertIs(type(program.nodes), tuple)
        self.assertEqual(program.text, "entry a\na: if x goto b else exit\nb: print x goto a")

    def test_more_nodes_than_a_source_may_have(self):
        nodes = tuple(parse_node(line) for line in chain(60))
        program = Program(LABELS[0], nodes)
        self.assertEqual(len(program), 60)
        self.assertEqual(list(program), LABELS)

    def test_no_nodes(self):
        program = Program("exit", ())
        self.assertEqual((program.entry, program.nodes, program.text), ("exit", (), "entry exit"))
        self.assertEqual((len(program), list(program), program.graph()), (0, [], ("exit", {})))

    def test_attributes_of_a_program_that_was_read(self):
        program = self.parse("entry b; a: x = 1 goto exit; b: print x goto a")
        self.assertEqual(program.entry, "b")
        self.assertIs(type(program.nodes), tuple)
        deed = ("set", "x", ("number", 1))
        self.assertEqual(program.nodes, (("b", ("print", ("variable", "x")), ("a",)), ("a", deed, ("exit",))))
        self.assertEqual(program.text, "entry b\nb: print x goto a\na: x = 1 goto exit")

    def test_attributes_are_set_on_each_object(self):
        for name in ("entry", "nodes", "text"):
            self.assertIn(name, vars(self.parse("entry exit")))

    def test_the_length(self):
        self.assertEqual(len(self.parse("entry exit")), 0)
        self.assertEqual(len(self.parse("entry a; a: x = 1 goto a; b: x = 1 goto a")), 1)
        self.assertEqual(len(self.parse("a: x = 1; b: x = 1; c: x = 1")), 3)

    def test_iterating_gives_the_labels_in_order(self):
        program = self.parse("entry c; a: x = 1 goto exit; b: x = 1 goto a; c: if x goto b else a")
        self.assertEqual(list(program), ["c", "b", "a"])
        self.assertEqual([label for label in program], ["c", "b", "a"])
        self.assertEqual(list(program), list(program))

    def test_labels_that_the_program_has(self):
        program = self.parse("entry a; a: x = 1 goto b.2; b.2: x = 1 goto exit; c: x = 1 goto a")
        for label in ("a", "b.2"):
            self.assertIs(label in program, True)
        for label in ("c", "b", "exit", "x", "", None, 1):
            self.assertIs(label in program, False, label)

    def test_a_node(self):
        program = self.parse("entry a; a: if x goto b.2 else exit; b.2: x = 1 goto exit; c: x = 1 goto a")
        self.assertEqual(program.node("a"), ("a", ("if", ("variable", "x")), ("b.2", "exit")))
        self.assertEqual(program.node("b.2"), ("b.2", ("set", "x", ("number", 1)), ("exit",)))
        for label in ("c", "b", "exit", "entry", ""):
            self.assertIsNone(program.node(label), label)
        self.assertIsNone(Program("exit", ()).node("exit"))

    def test_the_graph(self):
        program = self.parse("entry a; c: print x goto exit; b: print x goto c; a: if x goto b else c")
        self.assertEqual(program.graph(), ("a", {"a": ("b", "c"), "b": ("c",), "c": ("exit",)}))
        self.assertEqual(list(program.graph()[1]), ["a", "b", "c"])
        self.assertIs(type(program.graph()), tuple)

    def test_the_dict_of_the_graph_is_new(self):
        program = self.parse("entry a; a: if x goto a else b; b: print x goto exit")
        _, targets = program.graph()
        targets["a"] = ("exit", "exit")
        del targets["b"]
        self.assertEqual(program.graph(), ("a", {"a": ("a", "b"), "b": ("exit",)}))
        self.assertEqual(list(program), ["a", "b"])
        self.assertEqual(program.node("a")[2], ("a", "b"))

    def test_no_argument_is_changed(self):
        nodes = (parse_node("a: if x goto b else exit"), parse_node("b: print x goto a"))
        before = copy.deepcopy(nodes)
        program = Program("a", nodes)
        program.graph()[1].clear()
        list(program)
        self.assertEqual(nodes, before)

    def test_class_values(self):
        self.assertEqual((Program.MOST_NODES, Program.MOST_DEPTH), (20, 60))
        self.assertEqual((Program.MOST_HEIGHT, Program.MOST_OPEN), (20, 20))
        self.assertEqual(Program("exit", ()).MOST_NODES, 20)

    def test_class_values_are_those_of_the_other_files(self):
        self.assertEqual(Program.MOST_NODES, lowering.MOST_NODES)
        self.assertEqual(Program.MOST_DEPTH, statements.MOST_DEPTH)
        self.assertEqual(Program.MOST_HEIGHT, expressions.MOST_HEIGHT)
        self.assertEqual(Program.MOST_OPEN, expressions.MOST_OPEN)

    def test_methods_stand_in_the_class_itself(self):
        for name in ("parse", "node", "graph", "__eq__", "__len__", "__iter__", "__contains__"):
            self.assertIn(name, vars(Program))
        self.assertIsInstance(vars(Program)["parse"], staticmethod)


class Equal(ProgramTest):
    """Point 15, the last sentence."""

    def test_equal_texts(self):
        first = self.parse("entry a; a: x = (1) goto b; b: print x goto exit")
        for text in ("entry a; b: print x goto exit; a: x = 1 goto b", "a: x = 1; b: print x", "  entry  a; ; "
                     "a:x=1 goto b; c: x = 1 goto c; b:print x goto exit"):
            second = self.parse(text)
            self.assertIsNot(first, second)
            self.assertTrue(first == second, text)
            self.assertFalse(first != second, text)

    def test_equal_to_one_that_is_made(self):
        program = self.parse("entry a; a: x = 1 goto exit")
        self.assertEqual(program, Program("a", (parse_node("a: x = 1 goto exit"),)))

    def test_unequal_texts(self):
        first = self.parse("entry a; a: x = 1 goto b; b: print x goto exit")
        for text in ("entry b; a: x = 1 goto b; b: print x goto exit", "entry a; a: x = 2 goto b; b: print x goto exit",
                     "entry a; a: x = 1 goto b; b: print x goto a", "entry a; a: x = 1 goto exit", "entry exit",
                     "entry c; c: x = 1 goto b; b: print x goto exit"):
            second = self.parse(text)
            self.assertFalse(first == second, text)
            self.assertTrue(first != second, text)

    def test_another_order_of_the_nodes_that_are_taken_as_they_are(self):
        nodes = (parse_node("a: x = 1 goto b"), parse_node("b: print x goto exit"))
        self.assertTrue(Program("a", nodes) != Program("a", nodes[::-1]))

    def test_something_else(self):
        program = self.parse("entry a; a: x = 1 goto exit")
        for other in (program.text, None, 1, program.nodes, (program.entry, program.nodes), [], {}, object()):
            self.assertIs(program == other, False)
            self.assertIs(program != other, True)
            self.assertIs(other == program, False)


class Forms(ProgramTest):
    """Point 18: the form in which a source is read."""

    def test_with_jumps(self):
        self.assert_text("entry a; a: x = 1 goto exit", "entry a; a: x = 1 goto exit")
        self.assert_text("   entry a; a: x = 1 goto exit", "entry a; a: x = 1 goto exit")
        self.assert_text("; ;   ;  entry exit", "entry exit")

    def test_without_jumps(self):
        self.assert_text("a: x = 1", "entry a; a: x = 1 goto exit")
        self.assert_text("; ;  a: x = 1", "entry a; a: x = 1 goto exit")
        self.assert_text("exit", "entry exit")

    def test_empty_and_blank_sources(self):
        for text in ("", " ", "; ", "; ; ", "   ;   ;  "):
            self.assertEqual(self.parse(text), Program("exit", ()))
            self.assertEqual(format_source(text.replace("; ", "\n")), "")

    def test_a_letter_or_a_dot_directly_behind(self):
        self.assert_text("entrya: x = 1; b: x = 2", "entry entrya; entrya: x = 1 goto b; b: x = 2 goto exit")
        self.assert_text("entryb.2: x = 1", "entry entryb.2; entryb.2: x = 1 goto exit")
        self.assert_text(" entrya: x = 1", "entry entrya; entrya: x = 1 goto exit")
        # A keyword with a dot is no label.
        self.assert_syntax("entry.2: x = 1", 1)
        self.assert_syntax("entry. a; b: x = 1", 1)
        self.assert_syntax("entrya; a: x = 1 goto exit", 1)
        self.assert_syntax("entryexit", 1)

    def test_something_else_behind(self):
        for line in ("entry2", "entry 2", "entry2 a", "entry:", "entry: a", "entry: x = 1", "entry", "entry ",
                     "entry=1", "entry{", "entry(a)", "entry a b", "entry goto", "entry A", "entryA", "entry_",
                     "entry-a"):
            self.assert_syntax(line, 1)
            self.assert_syntax(f"; {line}; a: x = 1 goto exit", 2)
            self.assert_syntax(f"{line}; a: x = 1", 1)
            with self.assertRaises(SyntaxFault) as caught:
                format_source(f"\n\n {line}\na: x = 1 goto exit\n+")
            self.assertEqual(caught.exception.line, 3)

    def test_the_entry_takes_any_label(self):
        self.assert_text("entry entrya; entrya: x = 1 goto exit", "entry entrya; entrya: x = 1 goto exit")
        self.assert_text("entry a.99; a.99: x = 1 goto exit", "entry a.99; a.99: x = 1 goto exit")

    def test_a_tab_is_no_space(self):
        self.assert_syntax("\tentry exit", 1)
        self.assert_syntax("entry\texit", 1)
        self.assert_syntax("entry exit; \t", 2)


class Normalized(ProgramTest):
    """Points 13 and 14."""

    def test_nodes_that_are_not_reachable_are_left_out(self):
        self.assert_text("entry a; z: x = 1 goto a; a: x = 1 goto exit; y: if x goto y else z",
                         "entry a; a: x = 1 goto exit")

    def test_the_others_are_in_order(self):
        self.assert_text("entry a; d: print x goto exit; c: print x goto d; b: print x goto d; a: if x goto b else c",
                         "entry a; a: if x goto b else c; b: print x goto d; c: print x goto d; d: print x goto exit")
        self.assert_text("entry a; b: print x goto c; c: print x goto exit; a: if x goto c else b",
                         "entry a; a: if x goto c else b; b: print x goto c; c: print x goto exit")

    def test_the_entry_at_the_exit(self):
        self.assert_text("entry exit", "entry exit")
        self.assert_text("entry exit; a: x = 1 goto b; b: x = 1 goto exit", "entry exit")

    def test_cycles(self):
        self.assert_text("entry b; a: x = 1 goto b; b: if x goto a else b",
                         "entry b; b: if x goto a else b; a: x = 1 goto b")

    def test_an_order_of_its_own_for_many_programs(self):
        for graph in some_graphs("abcdef", 300, 11):
            entry, targets = graph
            lines = [node_text((label, ("if" if len(row) == 2 else "print", ("variable", "x")), row))
                     for label, row in targets.items()]
            program = Program.parse("\n".join([f"entry {entry}", *lines[::-1]]))
            self.assertEqual(tuple(program), order_by_words(graph))
            self.assertEqual(order_of(program.graph()), tuple(program))
            for label, _, row in program.nodes:
                self.assertEqual(row, targets[label])

    def test_blank_lines_are_left_out(self):
        self.assert_text("; entry a; ;   ; a: x = 1 goto b; ; b: x = 2 goto exit; ",
                         "entry a; a: x = 1 goto b; b: x = 2 goto exit")


class Errors(ProgramTest):
    """Points 3 and 14."""

    def test_wrong_lines(self):
        for line in ("a", "a:", "a: x", "a: x = 1", "a: x = 1 goto", "a: x = 1 goto b c", "a: print x", "goto a",
                     "a: if x goto a", "a: if x goto a else", "a: x = 1 goto a else b", "a b", "exit", "a: goto a",
                     "if: x = 1 goto a", "a: if = 1 goto a", "a: x.2 = 1 goto a", "a: x = 1 goto else", "+", "_", "A",
                     "a: x = 01 goto a", "a: x = 1000001 goto a", "a.1: x = 1 goto a", "abcdefghi: x = 1 goto a"):
            self.assert_syntax(f"entry a; {line}", 2)
            self.assert_syntax(f"entry exit; a: x = 1 goto exit; ; {line}; b: x = 1", 4)

    def test_a_second_entry_line(self):
        self.assert_syntax("entry a; entry a; a: x = 1 goto exit", 2)
        self.assert_syntax("entry exit; ; a: x = 1 goto exit; entry exit", 4)

    def test_no_entry_line(self):
        self.assert_syntax("a: x = 1 goto exit", 1)
        self.assert_syntax("; a: x = 1 goto b; b: x = 1 goto exit", 2)

    def test_text_ahead_of_the_entry(self):
        self.assert_syntax("a: x = 1 goto a; entry a", 1)
        # This is read in the form without jumps, in which the entry is the first wrong line.
        self.assert_syntax("a: x = 1; entry a", 2)
        self.assert_syntax("exit; entry a", 2)

    def test_a_line_of_the_form_without_jumps(self):
        for line in ("a: x = 1", "a: print x", "a: if x {", "}", "} else {", "block a {", "loop a {", "break a",
                     "continue a", "exit"):
            self.assert_syntax(f"entry exit; {line}", 2)

    def test_an_expression_that_is_too_high_or_too_open(self):
        self.assertEqual(len(self.parse(f"entry a; a: x = {HIGHEST} goto exit")), 1)
        self.assert_syntax(f"entry a; ; a: x = {TOO_HIGH} goto exit", 3)
        self.assertEqual(len(self.parse(f"entry a; a: print {'(' * 20}x{')' * 20} goto exit")), 1)
        self.assert_syntax(f"entry a; a: print {'(' * 21}x{')' * 21} goto exit", 2)

    def test_blank_lines_count(self):
        self.assert_syntax("; ; entry a; ;  ; +", 6)
        self.assert_syntax("; entry", 2)

    def test_the_first_wrong_line(self):
        self.assert_syntax("entry a; b c; d e", 2)
        self.assert_syntax("entry; b c", 1)

    def test_carriage_returns_are_no_ends_of_lines(self):
        self.assert_syntax("entry exit\r; a: x = 1 goto exit", 1)
        self.assert_syntax("entry exit; a: x = 1 goto exit\x0b", 2)

    def test_doubled_labels(self):
        self.assert_fault("entry a; a: x = 1 goto a; a: x = 1 goto a", DUPLICATE, "a")
        self.assert_fault("entry a; a: x = 1 goto a; b: x = 1 goto a; b: x = 1 goto a", DUPLICATE, "b")
        self.assert_fault("entry exit; b.2: x = 1 goto a; b: x = 1 goto a; b.2: x = 1 goto exit", DUPLICATE, "b.2")

    def test_the_first_node_whose_label_is_that_of_a_later_one(self):
        a, b, c = [f"{label}: x = 1 goto exit" for label in "abc"]
        self.assert_fault("; ".join(["entry a", c, a, b, b, a]), DUPLICATE, "a")
        self.assert_fault("; ".join(["entry a", c, b, a, a, b]), DUPLICATE, "b")

    def test_labels_with_and_without_a_number_are_different(self):
        self.assertEqual(len(self.parse("entry a; a: x = 1 goto a.2; a.2: x = 1 goto a.3; a.3: x = 1 goto exit")), 3)

    def test_unknown_labels(self):
        self.assert_fault("entry a", UNKNOWN, "a")
        self.assert_fault("entry a; b: x = 1 goto exit", UNKNOWN, "a")
        self.assert_fault("entry a; a: x = 1 goto b", UNKNOWN, "b")
        self.assert_fault("entry a; a: if x goto b else a", UNKNOWN, "b")
        self.assert_fault("entry a; a: if x goto a else b", UNKNOWN, "b")
        self.assert_fault("entry a; a: x = 1 goto a.2", UNKNOWN, "a.2")
        self.assert_fault("entry a.2; a: x = 1 goto a", UNKNOWN, "a.2")

    def test_the_first_unknown_label(self):
        self.assert_fault("entry a; b: x = 1 goto c", UNKNOWN, "a")
        self.assert_fault("entry a; a: if x goto b else c", UNKNOWN, "b")
        self.assert_fault("entry a; a: if x goto c else b", UNKNOWN, "c")
        # The nodes are looked at as they stand in the source.
        self.assert_fault("entry a; b: x = 1 goto d; a: x = 1 goto c", UNKNOWN, "d")
        self.assert_fault("entry b; a: if x goto b else d; b: x = 1 goto c", UNKNOWN, "d")

    def test_targets_of_nodes_that_are_not_reachable_count(self):
        self.assert_fault("entry a; a: x = 1 goto exit; b: x = 1 goto c", UNKNOWN, "c")
        self.assert_fault("entry exit; b: if x goto exit else c", UNKNOWN, "c")

    def test_too_many_nodes(self):
        many = Program.MOST_NODES
        self.assertEqual(len(self.parse("; ".join([f"entry {LABELS[0]}", *chain(many)]))), many)
        self.assert_fault("; ".join([f"entry {LABELS[0]}", *chain(many + 1)]), TOO_MANY)
        self.assert_fault("; ".join([f"entry {LABELS[0]}", *chain(60)]), TOO_MANY)

    def test_any_number_of_nodes_that_are_not_reachable(self):
        self.assertEqual(len(self.parse("; ".join(["entry exit", *chain(60)]))), 0)
        lines = [f"entry {LABELS[40]}", *chain(40), *chain(20, 40)]
        self.assertEqual(list(self.parse("; ".join(lines))), LABELS[40:60])

    def test_the_order_of_the_errors(self):
        twice, unknown = "a: x = 1 goto b; a: x = 1 goto b", "b: x = 1 goto zz"
        many = "; ".join(chain(21))
        self.assert_syntax(f"entry zz; {twice}; {unknown}; {many}; +", 26)
        self.assert_fault(f"entry zz; {unknown}; {twice}; {many}", DUPLICATE, "a")
        self.assert_fault(f"entry {LABELS[0]}; {many}; {unknown}", UNKNOWN, "zz")
        self.assert_fault(f"entry {LABELS[0]}; {many}; b: x = 1 goto a; a: x = 1 goto b", TOO_MANY)

    def test_no_label_for_too_many_nodes(self):
        with self.assertRaises(SourceFault) as caught:
            self.parse("; ".join([f"entry {LABELS[0]}", *chain(21)]))
        self.assertIsNone(caught.exception.label)


class Texts(ProgramTest):
    """Point 15."""

    def test_spaces_and_expressions(self):
        self.assert_text("  entry   a.2;a.2:x=(x+1)*(2)goto b;b :if((x<1))goto a.2 else exit".replace(";", "; "),
                         "entry a.2; a.2: x = (x + 1) * 2 goto b; b: if x < 1 goto a.2 else exit")
        self.assert_text("entry a; a: print x-(y - 1) goto a", "entry a; a: print x - (y - 1) goto a")

    def test_no_newline_at_the_end(self):
        self.assert_text("entry exit; ", "entry exit")
        self.assert_text("entry a; a: x = 1 goto exit; ; ", "entry a; a: x = 1 goto exit")

    def test_reading_it_gives_the_same_program(self):
        for graph in some_graphs("abcde", 200, 7):
            entry, targets = graph
            program = Program(entry, tuple(
                (label, ("if" if len(targets[label]) == 2 else "print", ("variable", "x")), targets[label])
                for label in order_by_words(graph)))
            again = Program.parse(program.text)
            self.assertEqual(again, program)
            self.assertEqual((again.entry, again.nodes), (program.entry, program.nodes))


class Formats(unittest.TestCase):
    """Points 15, 18 and 19: format_source."""

    def assert_normal(self, text, normal):
        self.assertEqual(format_source(text), normal)
        self.assertEqual(format_source(normal), normal)

    def assert_syntax(self, text, line):
        with self.assertRaises(SyntaxFault, msg=text) as caught:
            format_source(text)
        self.assertEqual(caught.exception.line, line, text)

    def test_with_jumps(self):
        self.assert_normal(" entry  a\n\na :x=(1)goto b\n  \nb:if((x))goto a else exit\n",
                           "entry a\na: x = 1 goto b\nb: if x goto a else exit")
        self.assert_normal("\n  entry exit\n", "entry exit")

    def test_nodes_stay_in_the_order_of_the_source(self):
        text = "entry a\nd: x = 1 goto c\nc: x = 1 goto exit\nb: x = 1 goto b\na: x = 1 goto c"
        self.assert_normal(text, text)

    def test_nodes_that_are_not_reachable_stay(self):
        text = "entry exit\na: x = 1 goto exit\nb: x = 1 goto a"
        self.assert_normal(text, text)

    def test_faults_of_labels_raise_nothing(self):
        for text in ("entry a", "entry a\na: x = 1 goto b", "entry a\na: x = 1 goto a\na: x = 1 goto a",
                     "entry zz\na: if x goto y else z\na: print x goto exit"):
            self.assert_normal(text, text)

    def test_more_nodes_than_a_program_may_have(self):
        text = "\n".join([f"entry {LABELS[0]}", *chain(60)])
        self.assert_normal(text, text)
        text = "\n".join(f"{label}: print x" for label in LABELS)
        self.assert_normal(text, text)

    def test_without_jumps(self):
        self.assert_normal("a:if x{\n\nb:x=(1)\n}else{\n}\nloop r{\ncontinue r\n}",
                           "a: if x {\n  b: x = 1\n}\nloop r {\n  continue r\n}")
        self.assert_normal("entrya: x = 1", "entrya: x = 1")
        self.assert_normal("", "")

    def test_bodies_with_faults_raise_nothing(self):
        for text in ("a: x = 1\na: x = 1", "break a", "continue a", "block a {\n  continue a\n}",
                     "block a {\n  block a {\n  }\n}", "loop a {\n  continue a\n}", "exit\na: x = 1",
                     "a: x = 1\nexit\nexit"):
            self.assert_normal(text, text)

    def test_wrong_lines(self):
        self.assert_syntax("entry a\n\na: x = 1", 3)
        self.assert_syntax("entry a\nentry a", 2)
        self.assert_syntax("entry", 1)
        self.assert_syntax("a: x = 1\nb", 2)
        self.assert_syntax("a: x = 1 goto exit", 1)
        self.assert_syntax("\nblock a {\n", 4)
        self.assert_syntax("a: x = 1\n}", 2)
        self.assert_syntax(f"entry a\na: x = {TOO_HIGH} goto exit", 2)
        self.assert_syntax(f"a: x = {TOO_HIGH}", 1)

    def test_the_depth(self):
        def nested(many):
            return "\n".join([f"block {label} {{" for label in LABELS[:many]] + ["}"] * many)

        labels = [f"b.{number}" for number in range(2, 63)]
        deepest = "\n".join([f"loop {label} {{" for label in labels[:60]] + ["}"] * 60)
        self.assertEqual(format_source(format_source(deepest)), format_source(deepest))
        self.assert_syntax("\n".join([f"loop {label} {{" for label in labels[:61]] + ["}"] * 61), 61)
        self.assertEqual(format_source(nested(3)), "block n.2 {\n  block n.3 {\n    block n.4 {\n    }\n  }\n}")

    def test_a_program_that_is_normalized_stays(self):
        text = "entry a\na: if x goto b else c\nb: print x goto c\nc: print x goto exit"
        self.assertEqual(format_source(text), Program.parse(text).text)


class WithoutJumps(ProgramTest):
    """Point 22, and the errors of point 21 by Program.parse."""

    def test_the_example_of_the_interface(self):
        self.assertEqual(Program.parse("loop r {\na: if x {\nb: x = x - 1\ncontinue r\n}\n}").text,
                         "entry a\na: if x goto b else exit\nb: x = x - 1 goto a")

    def test_the_example_of_an_error(self):
        with self.assertRaises(SourceFault):
            Program.parse("a: x = 1\nbreak b")

    def test_the_nodes_are_in_order(self):
        text = ("a: if x {; c: if y {; b: print x; }; } else {; loop d {; d: if z {; continue d; }; }; }; e: print y")
        entry, nodes = lowered(parse_body(text.replace("; ", "\n")))
        program = self.parse(text)
        self.assertEqual(program.entry, entry)
        self.assertEqual(sorted(program.nodes), sorted(nodes))
        self.assertEqual(tuple(program), order_of(program.graph()))

    def test_an_order_that_is_not_that_of_the_text(self):
        text = "block b {; a: if x {; break b; }; c: print x; exit; }; d: print y"
        program = self.parse(text)
        self.assertEqual([label for label, _, _ in lowered(parse_body(text.replace("; ", "\n")))[1]], ["a", "c", "d"])
        self.assertEqual(list(program), ["a", "d", "c"])
        self.assertEqual(program.text, "entry a\na: if x goto d else c\nd: print y goto exit\nc: print x goto exit")

    def test_faults(self):
        self.assert_fault("a: x = 1; a: x = 1", DUPLICATE, "a")
        self.assert_fault("block a {; block a {; }; }", "name is already in use", "a")
        self.assert_fault("a: x = 1; break b", "no enclosing block or loop", "b")
        self.assert_fault("block b {; continue b; }", "no enclosing loop", "b")
        self.assert_fault("loop r {; continue r; }", "loop contains no node")
        self.assert_fault("exit; a: x = 1", "unreachable label", "a")
        self.assert_fault("; ".join(f"{label}: x = 1" for label in LABELS[:21]), TOO_MANY)
        self.assertEqual(len(self.parse("; ".join(f"{label}: x = 1" for label in LABELS[:20]))), 20)

    def test_wrong_lines_go_first(self):
        self.assert_syntax("a: x = 1; a: x = 1; break b; +", 4)
        self.assert_syntax("a: x = 1; a: x = 1; block b {", 4)
        self.assert_syntax("a: x = 1; }; }", 2)
        self.assert_syntax("a: x = 1; ; a: x = 1 goto exit", 3)

    def test_labels_may_stand_as_names_of_blocks(self):
        self.assert_text("loop a {; a: if x {; continue a; }; }", "entry a; a: if x goto a else exit")

    def test_the_text_of_a_body_gives_the_same_program(self):
        body = parse_body("a: if x {\nb: print x\n}\nloop c {\nc: if y {\ncontinue c\n}\n}")
        self.assertEqual(Program.parse(body_text(body)),
                         self.parse("entry a; a: if x goto b else c; b: print x goto c; c: if y goto c else exit"))


if __name__ == "__main__":
    unittest.main()

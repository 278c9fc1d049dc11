"""Points 37 to 40 and the part restruct/editing.py of the interface."""

import copy
import unittest

from restruct.editing import Desk
from restruct.errors import CannotApply, NotReducible, SourceFault, SyntaxFault
from restruct.programs import Program
from restruct.runs import Session, run
from restruct.statements import body_text
from restruct.structuring import structured
from test_runs import parse

TEXT = "entry a\na: if x goto b else c\nb: x = x - 1 goto a\nc: print x goto exit"
CROSSING = "entry a\na: if x goto b else c\nb: x = x - 1 goto c\nc: if x goto b else exit"
UNKNOWN = "unknown label"
TOO_MANY = "too many nodes"
LABELS = [f"n.{number}" for number in range(2, 62)]


class DeskTest(unittest.TestCase):

    def setUp(self):
        self.desk = Desk(TEXT)

    def all_of(self, desk):
        """All that a desk shows, and what undo and redo lead to."""
        shown = [(desk.present, desk.remarks(), desk.stops(), desk.depth)]
        with desk.tried():
            while desk.undo():
                shown.append((desk.present, desk.remarks(), desk.stops(), desk.depth))
        with desk.tried():
            while desk.redo():
                shown.append((desk.present, desk.remarks(), desk.stops(), desk.depth))
        return shown

    def edit(self, *commands):
        return self.desk.edit(commands)

    def assert_text(self, *lines):
        self.assertEqual(self.desk.present.text, "\n".join(lines))

    def assert_cannot_apply(self, index, *commands):
        """An edit raises CannotApply with an index, and changes nothing."""
        before = self.all_of(self.desk)
        with self.assertRaises(CannotApply, msg=commands) as caught:
            self.desk.edit(commands)
        self.assertEqual(caught.exception.index, index, commands)
        self.assertEqual(self.all_of(self.desk), before, commands)

    def assert_fault(self, reason, label, *commands):
        before = self.all_of(self.desk)
        with self.assertRaises(SourceFault, msg=commands) as caught:
            self.desk.edit(commands)
        self.assertEqual((caught.exception.reason, caught.exception.label), (reason, label), commands)
        self.assertEqual(self.all_of(self.desk), before, commands)


class New(DeskTest):
    """Point 37: a desk as it is made."""

    def test_the_program_of_a_source(self):
        self.assertEqual(self.desk.present, Program.parse(TEXT))
        self.assertIs(type(self.desk.present), Program)
        self.assertEqual(Desk("a: x = 1\nb: print x").present.text, "entry a\na: x = 1 goto b\nb: print x goto exit")
        self.assertEqual(Desk("").present.text, "entry exit")

    def test_without_notes_breakpoints_and_history(self):
        self.assertEqual((self.desk.remarks(), self.desk.stops(), self.desk.depth), ((), (), (0, 0)))
        self.assertIs(self.desk.undo(), False)
        self.assertIs(self.desk.redo(), False)

    def test_errors_are_those_of_the_source(self):
        with self.assertRaises(SyntaxFault) as caught:
            Desk("entry a\n+")
        self.assertEqual(caught.exception.line, 2)
        with self.assertRaises(SourceFault) as caught:
            Desk("entry a\na: x = 1 goto b")
        self.assertEqual((caught.exception.reason, caught.exception.label), (UNKNOWN, "b"))
        with self.assertRaises(SourceFault):
            Desk("a: x = 1\nbreak b")

    def test_the_interface_stands_in_the_class_itself(self):
        for name in ("remarks", "stops", "structured_text", "load", "edit", "undo", "redo", "tried", "foresee", "run",
                     "session"):
            self.assertTrue(callable(vars(Desk)[name]), name)
        for name in ("present", "depth"):
            self.assertIsInstance(vars(Desk)[name], property)


class Nodes(DeskTest):
    """Point 39: set_node."""

    def test_a_node_is_replaced(self):
        self.assertEqual(self.edit(("set_node", "b: x = x - 2 goto a")), ((), ()))
        self.assert_text("entry a", "a: if x goto b else c", "b: x = x - 2 goto a", "c: print x goto exit")

    def test_a_node_is_added(self):
        self.assertEqual(self.edit(("set_node", "c: print x goto d"), ("set_node", "d: print y goto exit")),
                         (("d",), ()))
        self.assert_text("entry a", "a: if x goto b else c", "b: x = x - 1 goto a", "c: print x goto d",
                         "d: print y goto exit")

    def test_the_kind_of_a_node_may_change(self):
        self.edit(("set_node", "c: if y goto c else exit"), ("set_node", "a: y = 2 goto b"),
                  ("set_node", "b: print y goto c"))
        self.assert_text("entry a", "a: y = 2 goto b", "b: print y goto c", "c: if y goto c else exit")

    def test_lines_are_read_as_in_a_source(self):
        self.edit(("set_node", "  b:x=((x))-(2)goto   a "))
        self.assertEqual(self.desk.present.node("b")[1], ("set", "x", ("-", ("variable", "x"), ("number", 2))))

    def test_wrong_lines(self):
        for line in ("", " ", "b", "b: x = 1", "b: x = 1 goto", "b: x = 1 goto a b", "entry a", "exit", "b: if x {",
                     "b: x = 1 goto a\n", "\nb: x = 1 goto a", "b: x = 1\ngoto a", "b: x = 1 goto a\nc: x = 1 goto a",
                     "if: x = 1 goto a", "B: x = 1 goto a", "b: x = 1000001 goto a", "b.1: x = 1 goto a",
                     "b: x = x" + " + x" * 20 + " goto a", "b: x = " + "(" * 21 + "x" + ")" * 21 + " goto a"):
            self.assert_cannot_apply(0, ("set_node", line))
        self.edit(("set_node", "b: x = x" + " + x" * 19 + " goto a"),
                  ("set_node", "c: x = " + "(" * 20 + "x" + ")" * 20 + " goto a"))

    def test_targets_need_not_exist_while_commands_are_left(self):
        self.assertEqual(self.edit(("set_node", "c: print x goto e"), ("set_node", "e: print x goto f"),
                                   ("set_node", "f: print x goto exit")), (("e", "f"), ()))

    def test_nodes_need_not_be_reachable_while_commands_are_left(self):
        self.assertEqual(self.edit(("set_node", "a: x = 1 goto c"), ("set_note", "b", "here"),
                                   ("set_node", "c: print x goto b"), ("set_node", "b: print x goto exit")), ((), ()))
        self.assert_text("entry a", "a: x = 1 goto c", "c: print x goto b", "b: print x goto exit")
        self.assertEqual(self.desk.remarks(), (("b", "here"),))

    def test_nodes_that_are_not_reachable_at_the_end(self):
        self.assertEqual(self.edit(("set_node", "a: x = 1 goto c")), ((), ("b",)))
        self.assert_text("entry a", "a: x = 1 goto c", "c: print x goto exit")
        self.assertEqual(self.edit(("set_node", "d: x = 1 goto a")), ((), ()))
        self.assert_text("entry a", "a: x = 1 goto c", "c: print x goto exit")

    def test_the_program_is_normalized(self):
        self.edit(("set_node", "a: if x goto c else b"))
        self.assertEqual(list(self.desk.present), ["a", "c", "b"])


class Entries(DeskTest):
    """Point 39: set_entry."""

    def test_a_label(self):
        self.assertEqual(self.edit(("set_entry", "c")), ((), ("a", "b")))
        self.assert_text("entry c", "c: print x goto exit")

    def test_the_exit(self):
        self.assertEqual(self.edit(("set_entry", "exit")), ((), ("a", "b", "c")))
        self.assert_text("entry exit")

    def test_read_as_in_a_source(self):
        self.edit(("set_entry", "  c "))
        self.assertEqual(self.desk.present.entry, "c")

    def test_a_label_that_is_added_later(self):
        self.assertEqual(self.edit(("set_entry", "d.2"), ("set_node", "d.2: x = 5 goto a")), (("d.2",), ()))
        self.assertEqual(self.desk.present.entry, "d.2")

    def test_wrong_targets(self):
        for text in ("", " ", "a b", "entry a", "goto", "entry", "1", "a.1", "a.", "A", "a\n", "a:", "(a)", "a .2", "-",
                     "abcdefghi", "if.2"):
            self.assert_cannot_apply(0, ("set_entry", text))


class Renaming(DeskTest):
    """Point 39: rename."""

    def test_a_label_in_the_node_and_in_all_targets(self):
        self.assertEqual(self.edit(("rename", "b", "d")), (("d",), ("b",)))
        self.assert_text("entry a", "a: if x goto d else c", "d: x = x - 1 goto a", "c: print x goto exit")

    def test_a_label_in_the_entry(self):
        self.assertEqual(self.edit(("rename", "a", "z.9")), (("z.9",), ("a",)))
        self.assert_text("entry z.9", "z.9: if x goto b else c", "b: x = x - 1 goto z.9", "c: print x goto exit")

    def test_variables_keep_their_names(self):
        self.edit(("set_node", "b: b = b + c goto a"), ("rename", "b", "d"), ("rename", "c", "x"))
        self.assertEqual(self.desk.present.node("d")[1],
                         ("set", "b", ("+", ("variable", "b"), ("variable", "c"))))

    def test_a_label_in_notes_and_breakpoints(self):
        self.edit(("set_note", "b", "here"), ("set_breakpoint", "b", "x = 1"), ("set_note", "c", "there"))
        self.edit(("rename", "b", "d"))
        self.assertEqual(self.desk.remarks(), (("d", "here"), ("c", "there")))
        self.assertEqual(self.desk.stops(), (("d", "x = 1"),))

    def test_the_node_keeps_its_place(self):
        # A label that is unknown tells which node is looked at first.
        self.assert_fault(UNKNOWN, "p", ("set_node", "b: x = 1 goto p"), ("set_node", "c: x = 1 goto q"),
                          ("rename", "b", "z"))

    def test_both_targets_of_a_node(self):
        self.edit(("set_node", "a: if x goto b else b"), ("rename", "b", "d"))
        self.assertEqual(self.desk.present.node("a")[2], ("d", "d"))

    def test_labels_that_change_places(self):
        self.assertEqual(self.edit(("rename", "b", "t"), ("rename", "c", "b"), ("rename", "t", "c")), ((), ()))
        self.assert_text("entry a", "a: if x goto c else b", "c: x = x - 1 goto a", "b: print x goto exit")

    def test_targets_without_a_node(self):
        # A target that is the new label is that of the renamed node from then on.
        self.edit(("set_node", "c: print x goto d"), ("rename", "b", "d"))
        self.assert_text("entry a", "a: if x goto d else c", "c: print x goto d", "d: x = x - 1 goto a")

    def test_a_node_that_is_not_reachable(self):
        self.edit(("set_entry", "c"), ("rename", "a", "e"), ("set_entry", "e"))
        self.assert_text("entry e", "e: if x goto b else c", "b: x = x - 1 goto e", "c: print x goto exit")

    def test_no_node_with_the_old_label(self):
        for old in ("d", "x", "exit", "a.2", "", " a"):
            self.assert_cannot_apply(0, ("rename", old, "e"))
        self.assert_cannot_apply(1, ("rename", "b", "d"), ("rename", "b", "e"))
        # A target alone is no node.
        self.assert_cannot_apply(1, ("set_node", "c: print x goto d"), ("rename", "d", "e"))

    def test_a_node_with_the_new_label(self):
        self.assert_cannot_apply(0, ("rename", "a", "b"))
        self.assert_cannot_apply(0, ("rename", "a", "a"))
        self.assert_cannot_apply(1, ("set_node", "d: x = 1 goto a"), ("rename", "a", "d"))

    def test_no_label(self):
        for new in ("", " ", " d", "d ", "d .2", "d. 2", "d e", "exit", "if", "if.2", "d.1", "d.100", "d.02", "D",
                    "d\n", "1", "d2", "abcdefghi", "d:", "+"):
            self.assert_cannot_apply(0, ("rename", "a", new))


class Notes(DeskTest):
    """Points 37 and 39: set_note, remarks."""

    def test_a_note(self):
        self.assertEqual(self.edit(("set_note", "b", "counts down")), ((), ()))
        self.assertEqual(self.desk.remarks(), (("b", "counts down"),))

    def test_notes_are_in_order(self):
        self.edit(("set_note", "c", "3"), ("set_note", "a", "1"), ("set_note", "b", "2"))
        self.assertEqual(self.desk.remarks(), (("a", "1"), ("b", "2"), ("c", "3")))
        self.edit(("set_node", "a: if x goto c else b"))
        self.assertEqual(self.desk.remarks(), (("a", "1"), ("c", "3"), ("b", "2")))

    def test_a_note_is_replaced(self):
        self.edit(("set_note", "b", "1"))
        self.edit(("set_note", "b", "2"))
        self.assertEqual(self.desk.remarks(), (("b", "2"),))
        self.edit(("set_note", "b", "3"), ("set_note", "b", "4"))
        self.assertEqual(self.desk.remarks(), (("b", "4"),))

    def test_the_empty_text_removes_it(self):
        self.edit(("set_note", "b", "1"), ("set_note", "c", "2"))
        self.assertEqual(self.edit(("set_note", "b", "")), ((), ()))
        self.assertEqual(self.desk.remarks(), (("c", "2"),))
        self.edit(("set_note", "a", ""))
        self.assertEqual(self.desk.remarks(), (("c", "2"),))

    def test_any_text(self):
        for text in (" ", "two\nlines", "\n", "+ 100 percent", "entry a", "A b"):
            self.edit(("set_note", "b", text))
            self.assertEqual(self.desk.remarks(), (("b", text),))

    def test_no_node_with_the_label(self):
        for label in ("d", "exit", "", "a.2", " a", "x"):
            self.assert_cannot_apply(0, ("set_note", label, "1"))
            self.assert_cannot_apply(0, ("set_note", label, ""))

    def test_a_node_of_the_draft(self):
        self.assertEqual(self.edit(("set_node", "d: x = 1 goto a"), ("set_note", "d", "1"), ("set_entry", "d")),
                         (("d",), ()))
        self.assertEqual(self.desk.remarks(), (("d", "1"),))

    def test_a_node_that_is_replaced_keeps_it(self):
        self.edit(("set_note", "b", "1"), ("set_breakpoint", "b", "x"))
        self.edit(("set_node", "b: x = 0 goto a"))
        self.assertEqual((self.desk.remarks(), self.desk.stops()), ((("b", "1"),), (("b", "x"),)))

    def test_notes_and_breakpoints_of_nodes_that_are_not_reachable_are_lost(self):
        self.edit(("set_note", "b", "1"), ("set_breakpoint", "b", "x"), ("set_note", "c", "2"))
        self.edit(("set_node", "a: x = 1 goto c"))
        self.assertEqual((self.desk.remarks(), self.desk.stops()), ((("c", "2"),), ()))
        # They do not come back with a node of the same label.
        self.edit(("set_node", "b: x = 1 goto exit"), ("set_node", "a: x = 1 goto b"))
        self.assertEqual((self.desk.remarks(), self.desk.stops()), ((), ()))


class Stops(DeskTest):
    """Points 37 and 39: set_breakpoint, stops."""

    def test_a_breakpoint(self):
        self.assertEqual(self.edit(("set_breakpoint", "b", "x = 1")), ((), ()))
        self.assertEqual(self.desk.stops(), (("b", "x = 1"),))

    def test_the_normal_text_of_the_condition(self):
        self.edit(("set_breakpoint", "b", "  ((x)+1)*(y<(2))"))
        self.assertEqual(self.desk.stops(), (("b", "(x + 1) * (y < 2)"),))

    def test_breakpoints_are_in_order(self):
        self.edit(("set_breakpoint", "c", "3"), ("set_breakpoint", "a", "1"), ("set_breakpoint", "b", "2"))
        self.assertEqual(self.desk.stops(), (("a", "1"), ("b", "2"), ("c", "3")))
        self.edit(("set_node", "a: if x goto c else b"))
        self.assertEqual(self.desk.stops(), (("a", "1"), ("c", "3"), ("b", "2")))

    def test_a_breakpoint_is_replaced(self):
        self.edit(("set_breakpoint", "b", "1"))
        self.edit(("set_breakpoint", "b", "2"))
        self.assertEqual(self.desk.stops(), (("b", "2"),))

    def test_none_removes_it(self):
        self.edit(("set_breakpoint", "b", "1"), ("set_breakpoint", "c", "2"))
        self.assertEqual(self.edit(("set_breakpoint", "b", None)), ((), ()))
        self.assertEqual(self.desk.stops(), (("c", "2"),))
        self.edit(("set_breakpoint", "a", None))
        self.assertEqual(self.desk.stops(), (("c", "2"),))

    def test_no_node_with_the_label(self):
        for label in ("d", "exit", "", "a.2", " a", "x"):
            self.assert_cannot_apply(0, ("set_breakpoint", label, "1"))
            self.assert_cannot_apply(0, ("set_breakpoint", label, None))

    def test_no_expression(self):
        for text in ("", " ", "x +", "x y", "x = y = z", "(x", "x)", "if", "x.2", "1000001", "01", "x\n", "x\n+ 1", "X",
                     "x = 1 goto a", "x" + " + x" * 20, "(" * 21 + "x" + ")" * 21):
            self.assert_cannot_apply(0, ("set_breakpoint", "b", text))
        self.edit(("set_breakpoint", "b", "x" + " + x" * 19), ("set_breakpoint", "c", "(" * 20 + "x" + ")" * 20))
        self.assertEqual([label for label, _ in self.desk.stops()], ["b", "c"])

    def test_a_note_and_a_breakpoint_are_apart(self):
        self.edit(("set_note", "b", "x"), ("set_breakpoint", "b", "y"))
        self.edit(("set_note", "b", ""))
        self.assertEqual((self.desk.remarks(), self.desk.stops()), ((), (("b", "y"),)))


class Commands(DeskTest):
    """Point 39: forms of commands, and errors."""

    def test_wrong_forms(self):
        good = ("set_node", "b: x = 1 goto a")
        for command in ((), ("set_node",), ("set_node", "b: x = 1 goto a", "c"), ("set_entry",),
                        ("set_entry", "a", "b"), ("rename",), ("rename", "b"), ("rename", "b", "d", "e"), ("set_note",),
                        ("set_note", "b"), ("set_note", "b", "1", "2"), ("set_breakpoint",), ("set_breakpoint", "b"),
                        ("set_breakpoint", "b", "1", "2"), ("set_breakpoint", "b", "1", None), ("delete", "b"),
                        ("", "b"), ("set_nodes", "b: x = 1 goto a"), ("SET_NODE", "b: x = 1 goto a"), ("undo",)):
            self.assert_cannot_apply(0, command)
            self.assert_cannot_apply(1, good, command, good)

    def test_values_of_other_kinds(self):
        for command in (None, 0, 1, "set_node", "", [], ["set_node", "b: x = 1 goto a"], {}, object(), (None,), (1, 2),
                        ("set_node", None), ("set_node", 1), ("set_node", ["b"]), ("set_node", ("b", "c")),
                        ("set_entry", None), ("set_entry", ["a"]), ("rename", "b", None), ("rename", None, "d"),
                        ("rename", "b", 1), ("set_note", "b", None), ("set_note", None, "1"), ("set_note", "b", 1),
                        ("set_note", ["b"], "1"), ("set_breakpoint", None, None), ("set_breakpoint", "b", 1),
                        ("set_breakpoint", "b", ("variable", "x")), ("set_breakpoint", ["b"], None),
                        ("set_breakpoint", None), (None, "b", "d"), ([], "b"), (["set_node"], "b: x = 1 goto a")):
            self.assert_cannot_apply(0, command)

    def test_the_index_of_the_first_one(self):
        good, bad = ("set_note", "b", "1"), ("set_note", "z", "1")
        self.assert_cannot_apply(0, bad)
        self.assert_cannot_apply(0, bad, bad)
        self.assert_cannot_apply(1, good, bad)
        self.assert_cannot_apply(3, good, good, good, bad, good, bad)

    def test_commands_are_applied_one_behind_the_other(self):
        self.assert_cannot_apply(0, ("set_note", "d", "1"), ("set_node", "d: x = 1 goto a"))
        self.edit(("set_node", "d: x = 1 goto a"), ("set_note", "d", "1"), ("set_node", "c: print x goto d"))
        self.assertEqual(self.desk.remarks(), (("d", "1"),))

    def test_an_edit_without_commands(self):
        self.edit(("set_note", "b", "1"))
        self.assertEqual(self.edit(), ((), ()))
        self.assertEqual(self.desk.present, Program.parse(TEXT))
        self.assertEqual((self.desk.remarks(), self.desk.depth), ((("b", "1"),), (2, 0)))
        self.assertEqual(self.desk.edit([]), ((), ()))

    def test_a_list_of_commands(self):
        commands = [("set_node", "b: x = 1 goto a"), ("set_note", "b", "1")]
        before = copy.deepcopy(commands)
        self.assertEqual(self.desk.edit(commands), ((), ()))
        self.assertEqual(commands, before)
        self.assertEqual(self.desk.remarks(), (("b", "1"),))

    def test_unknown_labels_of_the_draft(self):
        self.assert_fault(UNKNOWN, "d", ("set_node", "c: print x goto d"))
        self.assert_fault(UNKNOWN, "d", ("set_entry", "d"))
        self.assert_fault(UNKNOWN, "d", ("set_node", "c: if x goto a else d"))
        # Targets of nodes that are not reachable count, too.
        self.assert_fault(UNKNOWN, "d", ("set_node", "e: print x goto d"))
        self.assert_fault(UNKNOWN, "d", ("set_entry", "exit"), ("set_node", "c: print x goto d"))

    def test_the_first_unknown_label(self):
        self.assert_fault(UNKNOWN, "z", ("set_node", "a: if x goto p else q"), ("set_entry", "z"))
        self.assert_fault(UNKNOWN, "p", ("set_node", "a: if x goto p else q"))
        self.assert_fault(UNKNOWN, "p", ("set_node", "c: print x goto q"), ("set_node", "b: x = 1 goto p"))
        self.assert_fault(UNKNOWN, "q", ("set_node", "d: x = 1 goto p"), ("set_node", "c: print x goto q"))

    def test_nodes_in_the_order_of_the_draft(self):
        # At first these are in the order of the program; what is added stands behind all.
        self.desk = Desk("entry c\nb: x = 1 goto exit\na: x = 1 goto b\nc: x = 1 goto a")
        self.assert_fault(UNKNOWN, "q", ("set_node", "b: x = 1 goto p"), ("set_node", "a: x = 1 goto q"))
        self.assert_fault(UNKNOWN, "q", ("set_node", "d: x = 1 goto p"), ("set_node", "b: x = 1 goto q"))
        self.assert_fault(UNKNOWN, "p", ("set_node", "e: x = 1 goto p"), ("set_node", "d: x = 1 goto q"))

    def test_commands_are_looked_at_ahead_of_the_draft(self):
        self.assert_cannot_apply(1, ("set_node", "c: print x goto d"), ("set_entry", ""))

    def chain(self, many):
        """Commands that add nodes one behind the other ahead of the present entry."""
        labels = LABELS[:many] + ["a"]
        return [("set_node", f"{label}: x = 1 goto {behind}") for label, behind in zip(labels, labels[1:])]

    def test_too_many_nodes(self):
        self.assert_fault(TOO_MANY, None, *self.chain(18), ("set_entry", LABELS[0]))
        self.assertEqual(self.edit(*self.chain(17), ("set_entry", LABELS[0])), (tuple(LABELS[:17]), ()))
        self.assertEqual(len(self.desk.present), 20)
        self.assert_fault(TOO_MANY, None, ("set_node", "c: print x goto d"), ("set_node", "d: print x goto exit"))

    def test_any_number_of_nodes_that_are_not_reachable(self):
        self.assertEqual(self.edit(*self.chain(60)), ((), ()))
        self.assertEqual(len(self.desk.present), 3)

    def test_unknown_labels_go_ahead_of_too_many_nodes(self):
        self.assert_fault(UNKNOWN, "zz", *self.chain(20), ("set_entry", LABELS[0]), ("set_node", "zy: x = 1 goto zz"))


class Changes(DeskTest):
    """Point 37: what a change returns."""

    def test_added_in_the_order_of_the_new_program(self):
        added, removed = self.edit(("set_node", "e: x = 1 goto exit"), ("set_node", "d: x = 1 goto e"),
                                   ("set_node", "c: if x goto d else e"))
        self.assertEqual((added, removed), (("d", "e"), ()))

    def test_removed_in_the_order_of_the_old_program(self):
        self.desk = Desk("entry c\na: x = 1 goto b\nb: x = 1 goto exit\nc: x = 1 goto a")
        self.assertEqual(self.edit(("set_entry", "exit")), ((), ("c", "a", "b")))

    def test_both(self):
        self.assertEqual(self.edit(("rename", "c", "e"), ("rename", "a", "d"), ("set_node", "f: x = 1 goto d"),
                                   ("set_entry", "f")), (("f", "d", "e"), ("a", "c")))

    def test_a_load(self):
        self.assertEqual(self.desk.load("entry z\nz: if x goto y else c\nc: x = 1 goto exit\ny: x = 1 goto b\n"
                                        "b: x = 1 goto exit"), (("z", "y"), ("a",)))

    def test_kinds_of_values(self):
        for value in (self.edit(("rename", "a", "d")), self.desk.load("entry exit"), self.desk.remarks(),
                      self.desk.stops(), self.desk.depth):
            self.assertIs(type(value), tuple)
        for part in self.desk.load(TEXT):
            self.assertIs(type(part), tuple)
        self.edit(("set_note", "b", "1"), ("set_breakpoint", "b", "1"))
        for pair in self.desk.remarks() + self.desk.stops():
            self.assertEqual((type(pair), len(pair)), (tuple, 2))


class Loads(DeskTest):
    """Point 38."""

    def test_the_program_is_replaced(self):
        self.assertEqual(self.desk.load("x: y = 1"), (("x",), ("a", "b", "c")))
        self.assert_text("entry x", "x: y = 1 goto exit")

    def test_notes_and_breakpoints_of_common_labels_are_kept(self):
        self.edit(*[("set_note", label, label * 2) for label in "abc"],
                  *[("set_breakpoint", label, label) for label in "abc"])
        self.desk.load("entry d\nd: if x goto c else a\na: x = 1 goto exit\nc: x = 1 goto exit\nb: x = 1 goto exit")
        self.assertEqual(self.desk.remarks(), (("c", "cc"), ("a", "aa")))
        self.assertEqual(self.desk.stops(), (("c", "c"), ("a", "a")))
        # What is lost does not come back with the label.
        self.desk.load(TEXT)
        self.assertEqual(self.desk.remarks(), (("a", "aa"), ("c", "cc")))

    def test_the_same_program_again(self):
        self.edit(("set_note", "b", "1"))
        self.assertEqual(self.desk.load(TEXT), ((), ()))
        self.assertEqual((self.desk.remarks(), self.desk.depth), ((("b", "1"),), (2, 0)))

    def test_errors_are_those_of_the_source(self):
        self.edit(("set_note", "b", "1"))
        self.edit(("set_note", "b", "2"))
        self.desk.undo()
        before = self.all_of(self.desk)
        for text, error in (("entry a\n+", SyntaxFault), ("entry a", SourceFault), ("break a", SourceFault),
                            ("a: x = 1 goto exit", SyntaxFault)):
            with self.assertRaises(error):
                self.desk.load(text)
            self.assertEqual(self.all_of(self.desk), before)
        with self.assertRaises(SyntaxFault) as caught:
            self.desk.load("entry a\n\n+")
        self.assertEqual(caught.exception.line, 3)


class History(DeskTest):
    """Point 37: undo, redo, depth."""

    def test_undo_and_redo(self):
        self.edit(("set_node", "b: x = 0 goto a"), ("set_note", "b", "1"), ("set_breakpoint", "c", "x"))
        after = self.desk.present
        self.assertEqual(self.desk.depth, (1, 0))
        self.assertIs(self.desk.undo(), True)
        self.assertEqual(self.desk.present, Program.parse(TEXT))
        self.assertEqual((self.desk.remarks(), self.desk.stops(), self.desk.depth), ((), (), (0, 1)))
        self.assertIs(self.desk.redo(), True)
        self.assertEqual(self.desk.present, after)
        self.assertEqual((self.desk.remarks(), self.desk.stops()), ((("b", "1"),), (("c", "x"),)))
        self.assertEqual(self.desk.depth, (1, 0))

    def test_nothing_to_undo_or_redo(self):
        self.edit(("set_note", "b", "1"))
        self.assertIs(self.desk.redo(), False)
        self.assertEqual((self.desk.remarks(), self.desk.depth), ((("b", "1"),), (1, 0)))
        self.assertIs(self.desk.undo(), True)
        self.assertIs(self.desk.undo(), False)
        self.assertEqual((self.desk.remarks(), self.desk.depth), ((), (0, 1)))

    def test_several_changes(self):
        for number in range(5):
            self.edit(("set_note", "b", str(number)))
        notes = []
        while self.desk.undo():
            notes.append(self.desk.remarks())
        self.assertEqual(notes, [(("b", "3"),), (("b", "2"),), (("b", "1"),), (("b", "0"),), ()])
        self.assertEqual(self.desk.depth, (0, 5))
        notes = []
        while self.desk.redo():
            notes.append(self.desk.remarks())
        self.assertEqual(notes, [(("b", str(number)),) for number in range(5)])
        self.assertEqual(self.desk.depth, (5, 0))
        # What was redone can be undone again, the last change first.
        for number in (3, 2):
            self.assertIs(self.desk.undo(), True)
            self.assertEqual(self.desk.remarks(), (("b", str(number)),))

    def test_a_change_behind_an_undo(self):
        for number in range(4):
            self.edit(("set_note", "b", str(number)))
        self.desk.undo()
        self.desk.undo()
        self.assertEqual(self.desk.depth, (2, 2))
        self.edit(("set_note", "b", "new"))
        self.assertEqual(self.desk.depth, (3, 0))
        self.assertIs(self.desk.redo(), False)
        self.desk.undo()
        self.assertEqual(self.desk.remarks(), (("b", "1"),))
        self.desk.redo()
        self.assertEqual(self.desk.remarks(), (("b", "new"),))

    def test_a_load_is_a_change(self):
        self.edit(("set_note", "b", "1"))
        self.desk.load("entry exit")
        self.assertEqual(self.desk.depth, (2, 0))
        self.desk.undo()
        self.assertEqual((self.desk.present.text, self.desk.remarks()), (TEXT, (("b", "1"),)))
        self.desk.load("entry exit")
        self.assertEqual((self.desk.depth, self.desk.redo()), ((2, 0), False))

    def test_changes_that_change_nothing_count(self):
        self.edit()
        self.edit(("set_note", "b", ""))
        self.desk.load(TEXT)
        self.assertEqual(self.desk.depth, (3, 0))

    def test_fifty_changes(self):
        for number in range(50):
            self.edit(("set_note", "b", str(number)))
        self.assertEqual(self.desk.depth, (50, 0))
        self.assertEqual(sum(self.desk.undo() for _ in range(60)), 50)
        self.assertEqual((self.desk.remarks(), self.desk.depth), ((), (0, 50)))
        self.assertEqual(sum(self.desk.redo() for _ in range(60)), 50)
        self.assertEqual((self.desk.remarks(), self.desk.depth), ((("b", "49"),), (50, 0)))

    def test_fifty_one_changes(self):
        for number in range(51):
            self.edit(("set_note", "b", str(number)))
        self.assertEqual(self.desk.depth, (50, 0))
        self.assertEqual(sum(self.desk.undo() for _ in range(60)), 50)
        # The oldest change is lost: what was before it does not come back.
        self.assertEqual((self.desk.remarks(), self.desk.depth), ((("b", "0"),), (0, 50)))

    def test_a_further_change_behind_fifty_of_which_some_are_undone(self):
        for number in range(60):
            self.edit(("set_note", "b", str(number)))
        for _ in range(10):
            self.desk.undo()
        self.assertEqual(self.desk.depth, (40, 10))
        for number in range(11):
            self.edit(("set_note", "c", str(number)))
        self.assertEqual(self.desk.depth, (50, 0))
        while self.desk.undo():
            pass
        self.assertEqual(self.desk.remarks(), (("b", "10"),))

    def test_an_error_leaves_what_can_be_redone(self):
        self.edit(("set_note", "b", "1"))
        self.edit(("set_note", "b", "2"))
        self.desk.undo()
        self.assert_cannot_apply(0, ("set_note", "z", "1"))
        self.assert_fault(UNKNOWN, "z", ("set_entry", "z"))
        self.assertEqual(self.desk.depth, (1, 1))
        self.assertIs(self.desk.redo(), True)
        self.assertEqual(self.desk.remarks(), (("b", "2"),))

    def test_what_is_undone_stays_as_it_was(self):
        self.edit(("set_note", "b", "1"), ("set_breakpoint", "b", "1"))
        self.edit(("rename", "b", "d"), ("set_note", "d", "2"), ("set_breakpoint", "c", "3"))
        self.desk.undo()
        self.assertEqual((self.desk.remarks(), self.desk.stops()), ((("b", "1"),), (("b", "1"),)))
        self.edit(("set_note", "c", "9"))
        self.desk.undo()
        self.assertEqual((self.desk.remarks(), self.desk.stops()), ((("b", "1"),), (("b", "1"),)))


class Trials(DeskTest):
    """Point 40: trials."""

    def changed(self):
        """A desk with changes that can be undone and redone."""
        self.edit(("set_note", "b", "1"), ("set_breakpoint", "c", "x"))
        self.edit(("rename", "b", "d"))
        self.edit(("set_note", "d", "2"))
        self.desk.undo()
        return self.all_of(self.desk)

    def test_the_value_is_the_desk(self):
        with self.desk.tried() as desk:
            self.assertIs(desk, self.desk)

    def test_changes_within_a_trial(self):
        before = self.changed()
        with self.desk.tried():
            self.edit(("set_node", "a: x = 1 goto c"), ("set_note", "c", "9"))
            self.assertEqual(self.desk.remarks(), (("c", "9"),))
            self.desk.load("entry exit")
            self.assertEqual((self.desk.present.text, self.desk.depth), ("entry exit", (4, 0)))
        self.assertEqual(self.all_of(self.desk), before)

    def test_undo_and_redo_within_a_trial(self):
        before = self.changed()
        with self.desk.tried():
            self.assertIs(self.desk.undo(), True)
            self.assertIs(self.desk.undo(), True)
            self.assertEqual(self.desk.depth, (0, 3))
        self.assertEqual(self.all_of(self.desk), before)
        with self.desk.tried():
            self.assertIs(self.desk.redo(), True)
            self.assertEqual(self.desk.remarks(), (("d", "2"),))
        self.assertEqual(self.all_of(self.desk), before)
        with self.desk.tried():
            self.desk.undo()
            self.edit(("set_note", "c", "new"))
            self.assertEqual(self.desk.depth, (2, 0))
        self.assertEqual(self.all_of(self.desk), before)

    def test_more_changes_than_can_be_undone(self):
        before = self.changed()
        with self.desk.tried():
            for number in range(60):
                self.edit(("set_note", "c", str(number)))
            self.assertEqual(self.desk.depth, (50, 0))
        self.assertEqual(self.all_of(self.desk), before)

    def test_an_error_ends_it(self):
        before = self.changed()
        with self.assertRaises(CannotApply) as caught:
            with self.desk.tried():
                self.edit(("set_note", "c", "9"))
                self.edit(("set_note", "c", "8"), ("set_note", "z", "1"))
        self.assertEqual(caught.exception.index, 1)
        self.assertEqual(self.all_of(self.desk), before)
        with self.assertRaises(KeyError):
            with self.desk.tried():
                self.desk.undo()
                raise KeyError("x")
        self.assertEqual(self.all_of(self.desk), before)

    def test_trials_within_trials(self):
        before = self.changed()
        with self.desk.tried():
            self.edit(("set_note", "c", "outer"))
            within = self.all_of(self.desk)
            with self.desk.tried():
                self.desk.load("entry exit")
                with self.assertRaises(SourceFault):
                    with self.desk.tried():
                        self.desk.undo()
                        self.desk.load("entry z")
                self.assertEqual(self.desk.present.text, "entry exit")
            self.assertEqual(self.all_of(self.desk), within)
        self.assertEqual(self.all_of(self.desk), before)

    def test_the_desk_is_as_it_was_when_the_trial_was_made(self):
        before = self.changed()
        trial = self.desk.tried()
        self.edit(("set_note", "c", "9"))
        with trial as desk:
            # To begin the statement changes nothing.
            self.assertEqual(desk.remarks()[-1], ("c", "9"))
        self.assertEqual(self.all_of(self.desk), before)

    def test_a_trial_alone_changes_nothing(self):
        before = self.changed()
        self.desk.tried()
        self.assertEqual(self.all_of(self.desk), before)
        with self.desk.tried():
            pass
        self.assertEqual(self.all_of(self.desk), before)

    def test_a_session_goes_on_behind_a_trial(self):
        with self.desk.tried():
            self.edit(("set_entry", "c"))
            session = self.desk.session({"x": 4})
        self.assertEqual(session.resume(), (None, (("x", 4),), (4,), 1, "exited"))


class Foreseeing(DeskTest):
    """Point 40: foresee."""

    def test_what_an_edit_gives(self):
        self.edit(("set_note", "b", "1"))
        before = self.all_of(self.desk)
        commands = (("rename", "b", "d"), ("set_node", "d: x = 0 goto c"))
        self.assertEqual(self.desk.foresee(commands), (
            (("d",), ("b",)), "entry a\na: if x goto d else c\nd: x = 0 goto c\nc: print x goto exit"))
        self.assertEqual(self.all_of(self.desk), before)
        self.assertEqual(self.desk.edit(commands), (("d",), ("b",)))

    def test_without_commands(self):
        self.assertEqual(self.desk.foresee(()), (((), ()), TEXT))
        self.assertEqual(self.desk.depth, (0, 0))

    def test_what_can_be_redone_stays(self):
        self.edit(("set_note", "b", "1"))
        self.desk.undo()
        self.desk.foresee((("set_note", "b", "2"),))
        self.assertEqual((self.desk.remarks(), self.desk.depth), ((), (0, 1)))
        self.desk.redo()
        self.assertEqual(self.desk.remarks(), (("b", "1"),))

    def test_an_edit_that_raises_an_error(self):
        self.edit(("set_note", "b", "1"))
        self.desk.undo()
        before = self.all_of(self.desk)
        with self.assertRaises(CannotApply) as caught:
            self.desk.foresee((("set_note", "b", "1"), ("set_entry", "+")))
        self.assertEqual(caught.exception.index, 1)
        with self.assertRaises(SourceFault) as caught:
            self.desk.foresee((("set_entry", "z"),))
        self.assertEqual((caught.exception.reason, caught.exception.label), (UNKNOWN, "z"))
        self.assertEqual(self.all_of(self.desk), before)

    def test_kinds_of_values(self):
        value = self.desk.foresee(())
        self.assertEqual([type(value)] + [type(part) for part in value], [tuple, tuple, str])


class Texts(DeskTest):
    """structured_text."""

    def test_a_reducible_program(self):
        self.assertEqual(self.desk.structured_text(),
                         "loop a {\n  a: if x {\n    b: x = x - 1\n    continue a\n  } else {\n    c: print x\n  }\n}")
        self.assertEqual(self.desk.structured_text(), body_text(structured(self.desk.present)))

    def test_no_nodes(self):
        self.assertEqual(Desk("").structured_text(), "")

    def test_a_program_that_is_not_reducible(self):
        self.assertIsNone(Desk(CROSSING).structured_text())

    def test_behind_a_change(self):
        self.desk.load(CROSSING)
        self.assertIsNone(self.desk.structured_text())
        self.edit(("set_node", "c: print x goto exit"))
        self.assertEqual(self.desk.structured_text(), "a: if x {\n  b: x = x - 1\n}\nc: print x")

    def test_loading_it_gives_the_same_program(self):
        before = self.desk.present
        self.assertEqual(self.desk.load(self.desk.structured_text()), ((), ()))
        self.assertEqual(self.desk.present, before)


class Running(DeskTest):
    """run and session of a desk."""

    def test_a_run(self):
        for steps in (0, 1, 3, 1000, 1001):
            self.assertEqual(self.desk.run({"x": 3}, steps=steps), run(Program.parse(TEXT), {"x": 3}, steps=steps))
        self.assertEqual(self.desk.run({"x": 2}), (None, (("x", 0),), (0,), 6, "exited"))

    def test_a_thousand_steps_if_none_are_named(self):
        self.desk.load("entry a\na: x = x + 1 goto a")
        self.assertEqual(self.desk.run({})[3], 1000)
        self.assertEqual(self.desk.run({}, steps=5000)[3], 1000)
        with self.assertRaises(TypeError):
            self.desk.run({}, 5)

    def test_a_session(self):
        session = self.desk.session({"x": 3})
        self.assertIs(type(session), Session)
        self.assertEqual(session.state(), ("a", (("x", 3),), (), 0, None))

    def test_a_session_has_the_breakpoints(self):
        self.edit(("set_breakpoint", "b", "x < 3"), ("set_breakpoint", "c", "1"))
        session = self.desk.session({"x": 4})
        self.assertEqual([session.resume()[:2] for _ in range(4)], [
            ("b", (("x", 2),)), ("b", (("x", 1),)), ("c", (("x", 0),)), (None, (("x", 0),))])

    def test_a_session_of_a_program_that_is_not_reducible(self):
        self.desk.load(CROSSING)
        with self.assertRaises(NotReducible):
            self.desk.session({}).step_out()

    def test_a_session_is_not_changed_when_its_desk_is(self):
        self.edit(("set_breakpoint", "b", "1"))
        session = self.desk.session({"x": 2})
        session.step()
        before = session.state()
        self.edit(("set_breakpoint", "b", None), ("set_node", "b: print 9 goto a"), ("set_breakpoint", "c", "1"))
        self.desk.load("entry exit")
        self.desk.undo()
        self.assertEqual((session.state(), list(session)), (before, ["a"]))
        self.assertEqual([session.resume()[0] for _ in range(2)], ["b", None])
        self.assertEqual(session.state(), (None, (("x", 0),), (0,), 6, "exited"))

    def test_a_desk_is_not_changed_when_its_session_is(self):
        self.edit(("set_note", "a", "1"), ("set_breakpoint", "b", "1"))
        before = self.all_of(self.desk)
        inputs = {"x": 2}
        session = self.desk.session(inputs)
        for command in ("step", "resume", "step_over", "step_out", "back"):
            getattr(session, command)()
        self.desk.run(inputs)
        self.assertEqual(self.all_of(self.desk), before)
        self.assertEqual(inputs, {"x": 2})
        self.assertEqual(self.desk.session(inputs).state(), ("a", (("x", 2),), (), 0, None))

    def test_desks_do_not_change_each_other(self):
        other = Desk(TEXT)
        self.edit(("set_note", "a", "1"), ("set_breakpoint", "b", "1"), ("set_entry", "b"))
        self.assertEqual((other.present, other.remarks(), other.stops(), other.depth), (parse(TEXT), (), (), (0, 0)))


if __name__ == "__main__":
    unittest.main()

"""The whole document: its interface, its examples, and what it promises of all parts together."""

import copy
import importlib
import inspect
import unittest

from restruct.editing import Desk
from restruct.errors import SourceFault, TooMany, WorkError
from restruct.expressions import evaluate, expression_text, parse_expression
from restruct.graphs import is_reducible, witness_of
from restruct.lowering import lowered
from restruct.papers import chained, judges, search, split_paper, turned
from restruct.programs import Program, format_source, normalized
from restruct.runs import Session, run
from restruct.scopes import scopes_of
from restruct.signs import signs_of
from restruct.splitting import split
from restruct.statements import body_text, parse_body
from restruct.structuring import structured
from test_runs import some_programs

ERRORS = ("WorkError", "SyntaxFault", "SourceFault", "CannotApply", "BadLine", "TooMany", "NotReducible", "NoSuchLabel")
# The functions under each module, with their parameters; those behind a * are passed by keyword.
FUNCTIONS = {
    "signs": ("signs_of(line)",),
    "expressions": ("parse_expression(text)", "expression_text(expression)", "height_of(expression)",
                    "evaluate(expression, variables)"),
    "graphs": ("order_of(graph)", "edges_of(graph)", "strict_dominators(graph)", "retreating_edges(graph)",
               "loops_of(graph)", "is_reducible(graph)", "witness_of(graph)"),
    "nodes": ("parse_node(line)", "node_text(node)"),
    "statements": ("parse_body(text)", "body_text(body)"),
    "lowering": ("lowered(body)",),
    "programs": ("format_source(text)",),
    "structuring": ("structured(program)",),
    "splitting": ("split(program)",),
    "runs": ("run(program, inputs, *, steps=1000)",),
    "scopes": ("scopes_of(body, label)",),
    "papers": ("judges(first, second, paper)", "search(first, second)", "turned(paper)", "chained(paper, other)",
               "split_paper(origins)"),
}
CLASSES = {
    "programs.Program": ("__init__(self, entry, nodes)", "parse(text)", "node(self, label)", "graph(self)"),
    "runs.Session": ("__init__(self, program, inputs, breakpoints)", "state(self)", "step(self)", "back(self)",
                     "resume(self)", "run_to(self, label)", "step_over(self)", "step_out(self)"),
    "editing.Desk": ("__init__(self, text)", "remarks(self)", "stops(self)", "structured_text(self)",
                     "load(self, text)", "edit(self, commands)", "undo(self)", "redo(self)", "tried(self)",
                     "foresee(self, commands)", "run(self, inputs, *, steps=1000)", "session(self, inputs)"),
}


def module(name):
    return importlib.import_module(f"restruct.{name}")


class Interface(unittest.TestCase):

    def test_functions(self):
        for name, functions in FUNCTIONS.items():
            for text in functions:
                function = getattr(module(name), text.partition("(")[0])
                self.assertTrue(inspect.isfunction(function), text)
                self.assertEqual(function.__module__, f"restruct.{name}", text)
                self.assertEqual(f"{function.__name__}{inspect.signature(function)}", text)

    def test_classes(self):
        for name, methods in CLASSES.items():
            place, _, word = name.partition(".")
            kind = getattr(module(place), word)
            self.assertEqual(kind.__module__, f"restruct.{place}")
            for text in methods:
                # A method stands in the class itself, not only in a base class.
                method = vars(kind)[text.partition("(")[0]]
                method = method.__func__ if isinstance(method, staticmethod) else method
                self.assertEqual(f"{method.__name__}{inspect.signature(method)}", text)

    def test_errors(self):
        for name in ERRORS:
            error = getattr(module("errors"), name)
            self.assertEqual(error.__module__, "restruct.errors")
            self.assertTrue(issubclass(error, ValueError))
            self.assertTrue(issubclass(error, WorkError))


class Examples(unittest.TestCase):
    """The examples of the interface, as they stand there."""

    def test_signs(self):
        self.assertEqual(signs_of("a.2b <17"), [("word", "a.2"), ("word", "b"), ("symbol", "<"), ("number", 17)])

    def test_expressions(self):
        self.assertEqual(parse_expression("a-(b - 2)"),
                         ("-", ("variable", "a"), ("-", ("variable", "b"), ("number", 2))))
        self.assertEqual(expression_text(("*", ("+", ("variable", "a"), ("number", 1)), ("number", 2))), "(a + 1) * 2")
        self.assertIsNone(evaluate(parse_expression("n * n + 1"), {"n": 1000}))
        self.assertEqual(evaluate(parse_expression("x < 1"), {}), 1)

    def test_graphs(self):
        self.assertEqual(witness_of(("a", {"a": ("b", "c"), "b": ("c",), "c": ("b",)})),
                         ("c", ("c", "b"), ("a", "c"), ("a", "b")))

    def test_lowering(self):
        self.assertEqual(
            lowered(parse_body("loop r {\na: if x {\nb: x = x - 1\ncontinue r\n}\n}")),
            ("a", [("a", ("if", ("variable", "x")), ("b", "exit")),
                   ("b", ("set", "x", ("-", ("variable", "x"), ("number", 1))), ("a",))]))

    def test_programs(self):
        self.assertEqual(Program.parse("loop r {\na: if x {\nb: x = x - 1\ncontinue r\n}\n}").text,
                         "entry a\na: if x goto b else exit\nb: x = x - 1 goto a")
        with self.assertRaises(SourceFault):
            Program.parse("a: x = 1\nbreak b")


class Together(unittest.TestCase):
    """Points 15, 26, 29, 34 and 36: the same runs, whatever form a program has."""

    def assert_same_runs(self, first, second):
        for inputs in ({}, {"x": 3, "y": -2}, {"x": 1000000, "z": 1}):
            for steps in (0, 1, 5, 40):
                self.assertEqual(run(first, inputs, steps=steps)[1:], run(second, inputs, steps=steps)[1:], first.text)

    def test_a_program_its_text_its_body_and_its_split_program(self):
        counts = {"reducible": 0, "split": 0, "refused": 0}
        for program in some_programs("abcdefg", 250, 91):
            self.assertEqual(Program.parse(program.text), program)
            self.assertEqual(format_source(program.text), program.text)
            reducible = is_reducible(program.graph())
            self.assertEqual(Desk(program.text).structured_text() is not None, reducible)
            if reducible:
                counts["reducible"] += 1
                text = body_text(structured(program))
                self.assertEqual(Program.parse(text), program)
                self.assertEqual(format_source(text), text)
                self.assertEqual(Desk(text).structured_text(), text)
            try:
                second, origins = split(program)
            except TooMany:
                counts["refused"] += 1
                continue
            counts["split"] += second != program
            self.assertEqual(second == program, reducible)
            self.assert_same_runs(program, second)
            self.assertIs(judges(program, second, split_paper(origins)), True)
            if len(second) <= Program.MOST_NODES:
                self.assertEqual(Program.parse(body_text(structured(second))), second)
        self.assertGreater(min(counts["reducible"], counts["split"]), 15)

    def test_a_run_and_a_session_have_the_same_states(self):
        for program in some_programs("abcde", 80, 92):
            session = Session(program, {"x": 2}, {})
            for steps in range(10):
                state = run(program, {"x": 2}, steps=steps)
                self.assertEqual(session.state(), state)
                session.step()
            self.assertEqual(session.resume()[4] is None, run(program, {"x": 2})[4] is None)

    def test_an_edit_that_renames_all_labels_has_a_paper(self):
        for program in some_programs("abcde", 60, 93):
            desk = Desk(program.text)
            added, removed = desk.edit([("rename", label, f"{label}{label}.3") for label in program])
            self.assertEqual(added, tuple(f"{label}{label}.3" for label in removed))
            self.assertEqual(removed, tuple(program))
            paper = tuple(zip(removed, added))
            self.assertIs(judges(program, desk.present, paper), True)
            answer, pairs = search(program, desk.present)
            self.assertEqual((answer, sorted(pairs)), ("paper", sorted(paper)))
            self.assertEqual(chained(paper, turned(paper)), tuple((label, label) for label in program))

    def test_a_node_lies_in_its_own_scopes(self):
        for program in some_programs("abcdef", 100, 94):
            if is_reducible(program.graph()):
                body = structured(program)
                for label in program:
                    # Each name around a node is that of a node.
                    for kind, name in scopes_of(body, label):
                        self.assertIn(kind, ("if", "block", "loop"))
                        self.assertIn(name, program)

    def test_no_argument_is_changed(self):
        for program in some_programs("abcd", 40, 95):
            before = copy.deepcopy((program.entry, program.nodes, program.text, program.graph()))
            is_reducible(program.graph())
            if is_reducible(program.graph()):
                structured(program)
            second, origins = split(program)
            judges(program, second, split_paper(origins))
            search(program, second)
            run(program, {"x": 1})
            Session(program, {"x": 1}, {}).resume()
            self.assertEqual((program.entry, program.nodes, program.text, program.graph()), before)

    def test_normalized_programs_stay(self):
        for program in some_programs("abcdef", 100, 96):
            self.assertEqual(normalized(program.entry, program.nodes[::-1]).nodes, program.nodes)


if __name__ == "__main__":
    unittest.main()

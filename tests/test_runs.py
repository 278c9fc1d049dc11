"""Points 30 to 32 and the part restruct/runs.py of the interface."""

import copy
import unittest

from restruct.errors import NoSuchLabel, NotReducible
from restruct.expressions import evaluate, parse_expression
from restruct.graphs import is_reducible
from restruct.programs import Program, normalized
from restruct.runs import Session, run
from restruct.statements import body_text
from restruct.structuring import structured
from test_graphs import some_graphs
from test_scopes import scopes_by_lines

ALWAYS = ("number", 1)
COMMANDS = ("step", "back", "resume", "run_to", "step_over", "step_out")
# Counts n down to 0 and prints it at each turn.
DOWN = "entry a; a: if n goto b else exit; b: print n goto c; c: n = n - 1 goto a"
FOREVER = "entry a; a: x = x + 1 goto b; b: print x goto a"
SQUARES = "entry a; a: print n goto b; b: n = n * n goto a"
NESTED = ("entry a; a: if x goto b else g; b: if y goto c else d; c: print 1 goto e; d: print 2 goto e; "
          "e: print 3 goto f; f: print 4 goto h; g: print 5 goto h; h: print 6 goto exit")
CROSSING = "entry a; a: if x goto b else c; b: x = x - 1 goto c; c: if x goto b else exit"
DEEDS = ("x = x + 1", "y = y - 1", "x = x * x + 2", "y = x < y", "print x", "print y * 1000", "z = 7")
TESTS = ("x < 5", "y", "x = y", "y < 0", "z", "x * 100000")


def parse(text):
    return Program.parse(text.replace("; ", "\n"))


def some_programs(labels, many, start):
    """Programs of these labels with deeds that differ much from each other."""
    state = start
    for graph in some_graphs(labels, many, start):
        nodes = []
        for label, row in graph[1].items():
            state = (state * 1103515245 + 12345) % 2 ** 31
            if len(row) == 2 and (state >> 12) % 3:
                nodes.append((label, ("if", parse_expression(TESTS[(state >> 14) % len(TESTS)])), row))
            else:
                word, _, rest = DEEDS[(state >> 14) % len(DEEDS)].partition(" ")
                deed = ("print", parse_expression(rest)) if word == "print" else (
                    "set", word, parse_expression(rest[2:]))
                nodes.append((label, deed, row[:1]))
        yield normalized(graph[0], nodes)


# What the document says of a session, looked at in another way than the program does it: a session
# is the number of nodes that were executed, and perhaps an overflow. What a run has is kept for
# each number of nodes.

class Watched:

    def __init__(self, program, inputs, breakpoints):
        self.program, self.breakpoints = program, breakpoints
        self.many, self.overflowed = 0, False
        self.kept = [(program.entry, dict(inputs), (), ())]
        self.scopes = {}

    def look(self):
        """The place, the variables, the prints and the labels of the executed nodes."""
        while len(self.kept) <= self.many:
            place, variables, prints, labels = self.kept[-1]
            label, deed, targets = self.program.node(place)
            value = evaluate(deed[-1], variables)
            self.kept.append((
                targets[1] if deed[0] == "if" and value == 0 else targets[0],
                {**variables, deed[1]: value} if deed[0] == "set" else variables,
                prints + (value,) if deed[0] == "print" else prints,
                labels + (label,)))
        return self.kept[self.many]

    def state(self):
        place, variables, prints, _ = self.look()
        status = "overflow" if self.overflowed else "exited" if place == "exit" else None
        pairs = tuple((name, variables[name]) for name in sorted(variables))
        return None if place == "exit" else place, pairs, prints, self.many, status

    def is_finished(self):
        return self.overflowed or self.look()[0] == "exit"

    def step(self):
        place, variables, _, _ = self.look()
        if place != "exit" and not self.overflowed:
            if evaluate(self.program.node(place)[1][-1], variables) is None:
                self.overflowed = True
            else:
                self.many += 1

    def back(self):
        if self.overflowed:
            self.overflowed = False
        elif self.many:
            self.many -= 1

    def go_on(self, is_place, most=1000):
        for _ in range(most):
            self.step()
            if self.is_finished() or is_place(self.look()[0]):
                break

    def resume(self):
        self.go_on(lambda label: label in self.breakpoints and
                   evaluate(self.breakpoints[label], self.look()[1]) not in (0, None))

    def run_to(self, wanted):
        self.go_on(lambda label: label == wanted)

    def around(self, label):
        if label not in self.scopes:
            self.scopes[label] = scopes_by_lines(body_text(structured(self.program)).split("\n"), label)
        return self.scopes[label]

    def step_over(self):
        here = self.look()[0]
        self.go_on(lambda label: ("if", here) not in self.around(label))

    def step_out(self):
        here = self.around(self.look()[0])
        self.go_on(lambda label: here != () and here[-1] not in self.around(label))


class RunTest(unittest.TestCase):

    def assert_run(self, text, inputs, state, steps=1000):
        self.assertEqual(run(parse(text), inputs, steps=steps), state, text)


class Runs(RunTest):
    """Points 30 and 31."""

    def test_a_set(self):
        self.assert_run("a: x = 1 + 2", {}, (None, (("x", 3),), (), 1, "exited"))
        self.assert_run("a: x = x * 2", {"x": 4}, (None, (("x", 8),), (), 1, "exited"))

    def test_a_print(self):
        self.assert_run("a: print x; b: print x + 1", {"x": 4}, (None, (("x", 4),), (4, 5), 2, "exited"))
        self.assert_run("a: print 0 - 1", {}, (None, (), (-1,), 1, "exited"))

    def test_an_if(self):
        text = "a: if x {; b: print 1; } else {; c: print 2; }"
        for value in (1, 2, -1, 1000000):
            self.assert_run(text, {"x": value}, (None, (("x", value),), (1,), 2, "exited"))
        self.assert_run(text, {"x": 0}, (None, (("x", 0),), (2,), 2, "exited"))
        self.assert_run(text, {}, (None, (), (2,), 2, "exited"))

    def test_the_label_at_which_the_run_is(self):
        self.assert_run("a: x = 1; b: print x", {}, ("a", (), (), 0, None), 0)
        self.assert_run("a: x = 1; b: print x", {}, ("b", (("x", 1),), (), 1, None), 1)
        self.assert_run("a: x = 1; b: print x", {}, (None, (("x", 1),), (1,), 2, "exited"), 2)

    def test_the_variables_in_ascending_order(self):
        self.assert_run("a: m = 1; b: ab = 2; c: b = 3", {"z": 9, "a": 8},
                        (None, (("a", 8), ("ab", 2), ("b", 3), ("m", 1), ("z", 9)), (), 3, "exited"))

    def test_inputs_are_variables_that_were_set(self):
        self.assert_run("exit", {"y": 0, "x": -1000000}, (None, (("x", -1000000), ("y", 0)), (), 0, "exited"))

    def test_a_variable_that_is_read_ahead_of_being_set(self):
        self.assert_run("a: print x; b: y = x + 1", {}, (None, (("y", 1),), (0,), 2, "exited"))

    def test_a_variable_that_is_set_again(self):
        self.assert_run("a: x = 1; b: x = x + x; c: x = x + x", {}, (None, (("x", 4),), (), 3, "exited"))

    def test_a_loop(self):
        self.assert_run(DOWN, {"n": 3}, (None, (("n", 0),), (3, 2, 1), 10, "exited"))

    def test_the_entry_at_the_exit(self):
        for steps in (0, 1, 1000):
            self.assert_run("entry exit", {}, (None, (), (), 0, "exited"), steps)

    def test_an_overflow_in_a_set(self):
        self.assert_run("a: x = 1; b: x = n + 1; c: print x", {"n": 1000000},
                        ("b", (("n", 1000000), ("x", 1)), (), 1, "overflow"))

    def test_an_overflow_in_a_print(self):
        self.assert_run("a: print 1; b: print n * n; c: print 2", {"n": 1001},
                        ("b", (("n", 1001),), (1,), 1, "overflow"))

    def test_an_overflow_in_an_if(self):
        self.assert_run("a: if n - 1 {; b: print 1; }", {"n": -1000000}, ("a", (("n", -1000000),), (), 0, "overflow"))

    def test_an_overflow_in_a_part(self):
        self.assert_run("a: x = 0 * (n + 1); b: print x", {"n": 1000000}, ("a", (("n", 1000000),), (), 0, "overflow"))
        self.assert_run("a: if (n + 1) < 2 {; }", {"n": 1000000}, ("a", (("n", 1000000),), (), 0, "overflow"))

    def test_behind_an_overflow_the_steps_do_not_count_on(self):
        state = ("b", (("n", 10000),), (10, 100, 10000), 5, "overflow")
        for steps in (6, 7, 1000):
            self.assert_run(SQUARES, {"n": 10}, state, steps)
        self.assert_run(SQUARES, {"n": 10}, ("b", (("n", 10000),), (10, 100, 10000), 5, None), 5)

    def test_numbers_of_steps(self):
        self.assert_run(FOREVER, {}, ("a", (), (), 0, None), 0)
        self.assert_run(FOREVER, {}, ("b", (("x", 1),), (), 1, None), 1)
        self.assert_run(FOREVER, {}, ("b", (("x", 500),), tuple(range(1, 500)), 999, None), 999)
        state = ("a", (("x", 500),), tuple(range(1, 501)), 1000, None)
        for steps in (1000, 1001, 2000, 1000000):
            self.assert_run(FOREVER, {}, state, steps)

    def test_a_thousand_steps_if_none_are_named(self):
        self.assertEqual(run(parse(FOREVER), {}), run(parse(FOREVER), {}, steps=1000))
        self.assertEqual(run(parse(FOREVER), {})[3], 1000)

    def test_a_run_that_ends_with_the_last_step(self):
        # 333 turns of three steps, and the last look at the test.
        self.assertEqual(run(parse(DOWN), {"n": 333})[3:], (1000, "exited"))
        self.assertEqual(run(parse(DOWN), {"n": 334})[0::3], ("b", 1000))

    def test_a_program_that_is_not_reducible(self):
        self.assert_run(CROSSING, {"x": 1}, (None, (("x", 0),), (), 3, "exited"))

    def test_steps_is_passed_by_keyword(self):
        with self.assertRaises(TypeError):
            run(parse(FOREVER), {}, 5)

    def test_the_inputs_stay_as_they_are(self):
        inputs = {"n": 3, "m": 1}
        run(parse(DOWN), inputs)
        self.assertEqual(inputs, {"n": 3, "m": 1})

    def test_kinds_of_values(self):
        state = run(parse(DOWN), {"n": 1}, steps=2)
        self.assertEqual([type(part) for part in state], [str, tuple, tuple, int, type(None)])
        self.assertIs(type(state), tuple)
        self.assertIs(type(state[1][0]), tuple)

    def test_many_programs(self):
        for program in some_programs("abcdef", 200, 51):
            for inputs in ({}, {"x": 3, "y": -2}):
                watched = Watched(program, inputs, {})
                for steps in range(12):
                    self.assertEqual(run(program, inputs, steps=steps), watched.state(), program.text)
                    watched.step()


class SessionTest(unittest.TestCase):

    def session(self, text, inputs=None, **breakpoints):
        conditions = {label: parse_expression(condition) for label, condition in breakpoints.items()}
        return Session(parse(text), {} if inputs is None else inputs, conditions)

    def at(self, session):
        return session.state()[0]


class Steps(SessionTest):
    """Point 32: step, state, iterating."""

    def test_the_beginning(self):
        self.assertEqual(self.session(DOWN, {"n": 2}).state(), ("a", (("n", 2),), (), 0, None))
        self.assertEqual(self.session("exit").state(), (None, (), (), 0, "exited"))

    def test_each_step(self):
        session = self.session(DOWN, {"n": 1})
        states = [session.step() for _ in range(5)]
        self.assertEqual(states, [
            ("b", (("n", 1),), (), 1, None), ("c", (("n", 1),), (1,), 2, None), ("a", (("n", 0),), (1,), 3, None),
            (None, (("n", 0),), (1,), 4, "exited"), (None, (("n", 0),), (1,), 4, "exited")])

    def test_a_command_returns_the_state_behind_it(self):
        for command in ("step", "back", "resume", "step_over", "step_out"):
            session = self.session(DOWN, {"n": 2})
            session.step()
            self.assertEqual(getattr(session, command)(), session.state(), command)
        self.assertEqual(session.run_to("a"), session.state())

    def test_a_look_changes_nothing(self):
        session = self.session(DOWN, {"n": 2})
        self.assertEqual([session.state() for _ in range(3)], [("a", (("n", 2),), (), 0, None)] * 3)

    def test_iterating_gives_the_labels_that_were_executed(self):
        session = self.session(DOWN, {"n": 2})
        self.assertEqual(list(session), [])
        for _ in range(5):
            session.step()
        self.assertEqual(list(session), ["a", "b", "c", "a", "b"])
        self.assertEqual([label for label in session], ["a", "b", "c", "a", "b"])
        session.back()
        self.assertEqual(list(session), ["a", "b", "c", "a"])
        session.resume()
        self.assertEqual(list(session), ["a", "b", "c", "a", "b", "c", "a"])

    def test_a_node_that_overflows_was_not_executed(self):
        session = self.session("a: x = 1; b: print n * n", {"n": 2000})
        session.resume()
        self.assertEqual((list(session), session.state()[4]), (["a"], "overflow"))
        session.back()
        self.assertEqual((list(session), session.state()[4]), (["a"], None))

    def test_more_than_a_thousand_nodes_in_all(self):
        session = self.session(FOREVER)
        for _ in range(1500):
            session.step()
        self.assertEqual((session.state()[3], len(list(session))), (1500, 1500))

    def test_methods_stand_in_the_class_itself(self):
        for name in ("state", "step", "back", "resume", "run_to", "step_over", "step_out", "__iter__"):
            self.assertIn(name, vars(Session))


class Resuming(SessionTest):
    """Point 32: resume."""

    def test_without_breakpoints(self):
        self.assertEqual(self.session(DOWN, {"n": 2}).resume(), (None, (("n", 0),), (2, 1), 7, "exited"))

    def test_a_breakpoint(self):
        session = self.session(DOWN, {"n": 2}, c="1")
        self.assertEqual(session.resume(), ("c", (("n", 2),), (2,), 2, None))
        self.assertEqual(session.resume(), ("c", (("n", 1),), (2, 1), 5, None))
        self.assertEqual(session.resume(), (None, (("n", 0),), (2, 1), 7, "exited"))

    def test_at_least_one_node_is_executed(self):
        session = self.session(DOWN, {"n": 2}, a="1")
        self.assertEqual(session.resume()[3], 3)
        self.assertEqual(session.resume()[3], 6)
        session = self.session("entry a; a: x = x + 1 goto a", a="1")
        self.assertEqual([session.resume()[3] for _ in range(3)], [1, 2, 3])

    def test_several_breakpoints(self):
        session = self.session(DOWN, {"n": 2}, b="1", c="1")
        self.assertEqual([session.resume()[0] for _ in range(5)], ["b", "c", "b", "c", None])

    def test_conditions(self):
        session = self.session(DOWN, {"n": 5}, b="n = 3")
        self.assertEqual(session.resume()[:2], ("b", (("n", 3),)))
        session = self.session(DOWN, {"n": 5}, b="n - 3")
        self.assertEqual([session.resume()[1][0][1] for _ in range(5)], [5, 4, 2, 1, 0])
        session = self.session(DOWN, {"n": 5}, b="0", c="0 - 1")
        self.assertEqual(session.resume()[0], "c")
        session = self.session(DOWN, {"n": 5}, b="m")
        self.assertEqual(session.resume()[0], None)

    def test_a_condition_that_overflows_stops_nothing(self):
        session = self.session(DOWN, {"n": 3}, b="n * 500000")
        self.assertEqual(session.resume(), ("b", (("n", 2),), (3,), 4, None))
        session = self.session(DOWN, {"n": 3}, a="1000000 + n")
        self.assertEqual(session.resume()[:2], ("a", (("n", 0),)))

    def test_a_breakpoint_at_a_label_that_the_program_does_not_have(self):
        self.assertEqual(self.session(DOWN, {"n": 1}, z="1", exit="1").resume()[4], "exited")

    def test_at_most_a_thousand_nodes(self):
        session = self.session(FOREVER)
        self.assertEqual(session.resume()[3], 1000)
        self.assertEqual(session.resume()[3], 2000)
        session = self.session(FOREVER, b="x = 501")
        self.assertEqual(session.resume()[:1] + session.state()[3:], ("a", 1000, None))
        self.assertEqual(session.resume()[:1] + session.state()[3:], ("b", 1001, None))

    def test_a_stop_behind_the_thousandth_node(self):
        session = self.session(FOREVER, a="x = 500")
        self.assertEqual(session.resume()[3], 1000)
        session = self.session(FOREVER, b="x = 500")
        self.assertEqual(session.resume()[3], 999)

    def test_at_the_exit_and_behind_an_overflow(self):
        session = self.session(DOWN, {"n": 1}, a="1", b="1")
        for _ in range(4):
            session.resume()
        self.assertEqual(session.resume(), (None, (("n", 0),), (1,), 4, "exited"))
        session = self.session(SQUARES, {"n": 2000})
        self.assertEqual(session.resume(), ("b", (("n", 2000),), (2000,), 1, "overflow"))
        self.assertEqual(session.resume(), ("b", (("n", 2000),), (2000,), 1, "overflow"))


class RunningTo(SessionTest):
    """Point 32: run_to."""

    def test_a_label(self):
        session = self.session(DOWN, {"n": 2})
        self.assertEqual(session.run_to("c"), ("c", (("n", 2),), (2,), 2, None))
        self.assertEqual(session.run_to("b"), ("b", (("n", 1),), (2,), 4, None))

    def test_the_label_at_which_the_session_is(self):
        session = self.session(DOWN, {"n": 2})
        self.assertEqual(session.run_to("a"), ("a", (("n", 1),), (2,), 3, None))

    def test_a_label_that_is_not_met(self):
        session = self.session(NESTED, {"x": 0})
        self.assertEqual(session.run_to("b"), (None, (("x", 0),), (5, 6), 3, "exited"))

    def test_breakpoints_do_not_stop_it(self):
        session = self.session(DOWN, {"n": 2}, b="1")
        self.assertEqual(session.run_to("c")[0], "c")

    def test_at_most_a_thousand_nodes(self):
        session = self.session("entry a; a: x = x + 1 goto b; b: if x < 0 goto c else a; c: print x goto exit")
        self.assertEqual(session.run_to("c")[3], 1000)

    def test_labels_that_the_program_does_not_have(self):
        session = self.session(DOWN, {"n": 2})
        session.step()
        before = session.state()
        for label in ("z", "exit", "n", "a.2", ""):
            with self.assertRaises(NoSuchLabel):
                session.run_to(label)
            self.assertEqual((session.state(), list(session)), (before, ["a"]))
        with self.assertRaises(NoSuchLabel):
            self.session("exit").run_to("exit")

    def test_a_label_that_is_not_reachable(self):
        with self.assertRaises(NoSuchLabel):
            self.session("entry a; a: x = 1 goto exit; b: x = 1 goto exit").run_to("b")

    def test_at_the_exit_and_behind_an_overflow(self):
        session = self.session("a: x = 1")
        session.step()
        self.assertEqual(session.run_to("a"), (None, (("x", 1),), (), 1, "exited"))
        with self.assertRaises(NoSuchLabel):
            session.run_to("b")
        session = self.session("a: x = 1; b: x = n * n; c: x = 2", {"n": 2000})
        self.assertEqual(session.run_to("c")[0::4], ("b", "overflow"))
        self.assertEqual(session.run_to("b"), ("b", (("n", 2000), ("x", 1)), (), 1, "overflow"))

    def test_a_program_that_is_not_reducible(self):
        self.assertEqual(self.session(CROSSING, {"x": 2}).run_to("b")[0], "b")


class SteppingOver(SessionTest):
    """Point 32: step_over."""

    def test_a_conditional(self):
        session = self.session(NESTED, {"x": 1, "y": 1})
        self.assertEqual(session.step_over(), ("h", (("x", 1), ("y", 1)), (1, 3, 4), 5, None))
        session = self.session(NESTED, {"x": 0})
        self.assertEqual(session.step_over(), ("h", (("x", 0),), (5,), 2, None))

    def test_a_conditional_within_another(self):
        session = self.session(NESTED, {"x": 1})
        self.assertEqual(session.step()[0], "b")
        # e stands behind the inner conditional, in a branch of the outer one.
        self.assertEqual(session.step_over(), ("e", (("x", 1),), (2,), 3, None))

    def test_other_nodes(self):
        session = self.session(NESTED, {"x": 1})
        session.run_to("d")
        self.assertEqual([session.step_over()[0] for _ in range(4)], ["e", "f", "h", None])
        self.assertEqual(session.step_over()[3:], (6, "exited"))

    def test_empty_branches(self):
        session = self.session("a: if x {; }; b: print 1")
        self.assertEqual(session.step_over()[0], "b")

    def test_a_branch_that_repeats_the_loop(self):
        session = self.session(DOWN, {"n": 2})
        self.assertEqual(session.step_over(), ("a", (("n", 1),), (2,), 3, None))
        self.assertEqual(session.step_over(), ("a", (("n", 0),), (2, 1), 6, None))
        self.assertEqual(session.step_over()[3:], (7, "exited"))

    def test_branches_that_are_left_by_a_break(self):
        session = self.session("block e {; a: if x {; b: if y {; break e; }; c: print 1; }; d: print 2; }; e: print 3",
                               {"x": 1, "y": 1})
        self.assertEqual(session.step_over()[0], "e")
        session = self.session("block e {; a: if x {; b: if y {; break e; }; c: print 1; }; d: print 2; }; e: print 3",
                               {"x": 1, "y": 1})
        session.step()
        self.assertEqual(session.step_over()[0], "e")

    def test_a_loop_in_a_branch(self):
        session = self.session("a: if x {; loop b {; b: if n {; c: n = n - 1; continue b; }; }; }; d: print n",
                               {"x": 1, "n": 3})
        self.assertEqual(session.step_over(), ("d", (("n", 0), ("x", 1)), (), 8, None))

    def test_a_loop_in_a_branch_of_which_one_turn_is_made(self):
        session = self.session("a: if x {; loop b {; b: if n {; c: n = n - 1; continue b; }; }; }; d: print n",
                               {"x": 1, "n": 3})
        session.step()
        self.assertEqual([session.step_over()[0::3] for _ in range(4)], [("b", 3), ("b", 5), ("b", 7), ("d", 8)])

    def test_a_node_that_repeats_itself(self):
        session = self.session("entry a; a: if n < 3 goto a else b; b: print n goto exit")
        self.assertEqual([session.step_over()[0::3] for _ in range(2)], [("a", 1), ("a", 2)])

    def test_what_follows_may_lie_in_a_branch(self):
        # The form without jumps puts what only one branch leads to into this branch.
        session = self.session("entry a; a: if x goto b else c; b: if y goto a else c; c: print 1 goto d; "
                               "d: print 2 goto exit", {"x": 1})
        self.assertEqual(session.step_over()[0], "c")
        session = self.session("entry a; a: if n goto b else c; b: n = n - 1 goto a; c: print 1 goto exit", {"n": 0})
        self.assertEqual(session.step_over(), (None, (("n", 0),), (1,), 2, "exited"))

    def test_at_most_a_thousand_nodes(self):
        session = self.session("a: if 1 {; loop b {; b: x = x + 1; continue b; }; }; c: print x")
        self.assertEqual(session.step_over()[0::3], ("b", 1000))

    def test_an_overflow_in_a_branch(self):
        session = self.session("a: if n {; b: n = n * n; }; c: print n", {"n": 2000})
        self.assertEqual(session.step_over(), ("b", (("n", 2000),), (), 1, "overflow"))
        self.assertEqual(session.step_over(), ("b", (("n", 2000),), (), 1, "overflow"))

    def test_at_the_exit(self):
        self.assertEqual(self.session("exit").step_over(), (None, (), (), 0, "exited"))

    def test_breakpoints_do_not_stop_it(self):
        self.assertEqual(self.session(NESTED, {"x": 1}, b="1", c="1", e="1").step_over()[0], "h")


class SteppingOut(SessionTest):
    """Point 32: step_out."""

    def test_nothing_around(self):
        session = self.session(NESTED, {"x": 1})
        self.assertEqual(session.step_out()[3:], (6, "exited"))
        session = self.session("a: x = 1; b: x = 2; c: x = 3")
        session.step()
        self.assertEqual(session.step_out()[3:], (3, "exited"))

    def test_a_branch(self):
        session = self.session(NESTED, {"x": 1})
        session.run_to("d")
        self.assertEqual(session.step_out()[0], "e")
        self.assertEqual(session.step_out()[0], "h")
        self.assertEqual(session.step_out()[0], None)

    def test_both_branches_are_inside(self):
        session = self.session("loop b {; a: if n {; b: n = n - 1; continue b; } else {; c: x = 1; }; }", {"n": 2})
        session.run_to("b")
        # The branches belong to one conditional; its own node does not lie in them.
        self.assertEqual(session.step_out()[0::3], ("a", 2))

    def test_a_loop(self):
        text = "a: if x {; b: x = 0; }; loop c {; c: x = x + 1; d: if x < 3 {; continue c; }; e: print x; }; f: print 9"
        program = parse(text)
        # What follows the loop is dominated by its header, so it stands in the loop.
        self.assertIn("loop c {", body_text(structured(program)))
        session = self.session(text)
        session.run_to("c")
        self.assertEqual(session.step_out(), (None, (("x", 3),), (3, 9), 9, "exited"))

    def test_a_loop_that_is_left(self):
        text = "entry a; a: if w goto b else c; b: if x goto d else e; d: x = x - 1 goto b; c: print 1 goto e; " \
               "e: print 2 goto exit"
        session = self.session(text, {"w": 1, "x": 2})
        session.step()
        self.assertEqual(session.step_out(), ("e", (("w", 1), ("x", 0)), (), 6, None))
        session = self.session(text, {"w": 1, "x": 2})
        session.run_to("d")
        self.assertEqual(session.step_out()[0::3], ("b", 3))

    def test_a_loop_within_a_loop(self):
        text = "entry a; a: m = 2 goto b; b: if m goto c else d; c: m = m - 1 goto b; d: n = n - 1 goto e; " \
               "e: if n goto a else exit"
        session = self.session(text, {"n": 2})
        session.run_to("b")
        self.assertEqual(session.step_out()[0::3], ("a", 8))
        self.assertEqual(session.step_out()[4], "exited")

    def test_a_block(self):
        text = "block e {; block d {; a: if w {; b: if x {; break e; }; } else {; c: if x {; break e; }; }; " \
               "d: print 1; }; }; e: print 2"
        session = self.session(text, {"x": 0})
        self.assertEqual(body_text(structured(parse(text.replace("; ", "\n")))).split("\n")[0], "block e {")
        self.assertEqual(session.step_out(), ("e", (("x", 0),), (1,), 3, None))
        session = self.session(text, {"x": 0})
        session.run_to("d")
        self.assertEqual(session.step_out()[0], "e")
        session = self.session(text, {"x": 0})
        session.run_to("c")
        self.assertEqual(session.step_out()[0], "d")

    def test_a_node_that_is_left_at_once(self):
        session = self.session("a: if x {; b: print 1; }; c: print 2", {"x": 1})
        session.step()
        self.assertEqual(session.step_out()[0::3], ("c", 2))

    def test_at_most_a_thousand_nodes(self):
        self.assertEqual(self.session(FOREVER).step_out()[3], 1000)
        session = self.session("a: if 1 {; loop b {; b: x = x + 1; continue b; }; }; c: print x")
        session.step()
        self.assertEqual(session.step_out()[0::3], ("b", 1001))

    def test_at_the_exit_and_behind_an_overflow(self):
        self.assertEqual(self.session("exit").step_out(), (None, (), (), 0, "exited"))
        session = self.session("a: if n {; b: n = n * n; }; c: print n", {"n": 2000})
        session.step()
        self.assertEqual(session.step_out(), ("b", (("n", 2000),), (), 1, "overflow"))
        self.assertEqual(session.step_out(), ("b", (("n", 2000),), (), 1, "overflow"))

    def test_breakpoints_do_not_stop_it(self):
        self.assertEqual(self.session(NESTED, {"x": 1}, b="1", e="1").step_out()[4], "exited")


class Irreducible(SessionTest):
    """Point 32: programs that are not reducible."""

    def test_nothing_changes(self):
        session = self.session(CROSSING, {"x": 2}, b="1")
        for many in range(3):
            before, labels = session.state(), list(session)
            for command in (session.step_over, session.step_out):
                with self.assertRaises(NotReducible):
                    command()
                self.assertEqual((session.state(), list(session)), (before, labels))
            session.step()
            self.assertEqual(len(list(session)), many + 1)

    def test_at_the_exit_and_behind_an_overflow(self):
        session = self.session(CROSSING, {"x": 1})
        session.resume()
        self.assertEqual(session.state()[4], "exited")
        overflow = self.session(CROSSING.replace("x - 1", "x * x"), {"x": 2000})
        overflow.resume()
        self.assertEqual(overflow.state()[4], "overflow")
        for one in (session, overflow):
            before = one.state()
            for command in (one.step_over, one.step_out):
                with self.assertRaises(NotReducible):
                    command()
            self.assertEqual(one.state(), before)

    def test_the_other_commands(self):
        session = self.session(CROSSING, {"x": 2}, c="x = 1")
        self.assertEqual(session.resume()[0::3], ("c", 2))
        self.assertEqual(session.run_to("b")[0::3], ("b", 3))
        self.assertEqual(session.back()[0::3], ("c", 2))


class Backwards(SessionTest):
    """Point 32: back."""

    def test_at_the_beginning(self):
        session = self.session(DOWN, {"n": 2})
        before = session.state()
        self.assertEqual(session.back(), before)
        self.assertEqual(session.back(), before)
        self.assertEqual(self.session("exit").back(), (None, (), (), 0, "exited"))

    def test_behind_each_step(self):
        for text, inputs in ((DOWN, {"n": 3}), (NESTED, {"x": 1}), (SQUARES, {"n": 3}), (CROSSING, {"x": 2})):
            session = self.session(text, inputs)
            states = [session.state()]
            for _ in range(20):
                states.append(session.step())
            finished = [state for state in states if state != states[-1]] + [states[-1]]
            for state in finished[-2::-1]:
                self.assertEqual(session.back(), state)
            self.assertEqual(list(session), [])
            self.assertEqual(session.back(), states[0])

    def test_a_variable_that_was_not_set_before(self):
        session = self.session("a: x = 1; b: x = 2; c: print x")
        session.step()
        self.assertEqual(session.back(), ("a", (), (), 0, None))
        session.resume()
        self.assertEqual(session.state()[1:3], ((("x", 2),), (2,)))
        self.assertEqual(session.back()[1:3], ((("x", 2),), ()))
        self.assertEqual(session.back()[1], (("x", 1),))
        self.assertEqual(session.back()[1], ())

    def test_a_variable_that_was_0_before(self):
        session = self.session("a: x = 5", {"x": 0})
        session.step()
        self.assertEqual(session.back(), ("a", (("x", 0),), (), 0, None))

    def test_an_overflow_is_taken_back_alone(self):
        session = self.session(SQUARES, {"n": 2000})
        session.step()
        before = session.state()
        self.assertEqual(session.step()[4], "overflow")
        self.assertEqual(session.back(), before)
        self.assertEqual(session.back(), ("a", (("n", 2000),), (), 0, None))

    def test_an_overflow_at_the_first_node(self):
        session = self.session("a: x = n * n", {"n": 2000})
        self.assertEqual(session.step(), ("a", (("n", 2000),), (), 0, "overflow"))
        self.assertEqual(session.back(), ("a", (("n", 2000),), (), 0, None))
        self.assertEqual(session.back(), ("a", (("n", 2000),), (), 0, None))

    def test_behind_the_exit(self):
        session = self.session("a: x = 1; b: print x")
        session.resume()
        self.assertEqual(session.back(), ("b", (("x", 1),), (), 1, None))
        self.assertEqual(session.step(), (None, (("x", 1),), (1,), 2, "exited"))

    def test_a_command_is_taken_back_node_by_node(self):
        session = self.session(DOWN, {"n": 2})
        session.resume()
        self.assertEqual([session.back()[3] for _ in range(8)], [6, 5, 4, 3, 2, 1, 0, 0])

    def test_going_on_after_going_back(self):
        session = self.session(DOWN, {"n": 3}, c="n = 2")
        stopped = session.resume()
        end = session.resume()
        for _ in range(5):
            session.back()
        self.assertEqual(session.state(), stopped)
        self.assertEqual(session.resume(), end)
        for _ in range(6):
            session.back()
        self.assertEqual(session.state()[3], 4)
        self.assertEqual(session.resume(), stopped)
        self.assertEqual(list(session), ["a", "b", "c", "a", "b"])

    def test_more_than_a_thousand_steps(self):
        session = self.session(FOREVER)
        for _ in range(3):
            session.resume()
        for _ in range(2999):
            session.back()
        self.assertEqual(session.state(), ("b", (("x", 1),), (), 1, None))


class Apart(SessionTest):
    """Point 2."""

    def test_the_arguments_stay_as_they_are(self):
        program, inputs, breakpoints = parse(DOWN), {"n": 2}, {"b": ALWAYS}
        before = copy.deepcopy((program.nodes, inputs, breakpoints))
        session = Session(program, inputs, breakpoints)
        for command in ("step", "resume", "step_over", "step_out", "back"):
            getattr(session, command)()
        session.run_to("b")
        self.assertEqual((program.nodes, inputs, breakpoints), before)

    def test_the_session_stays_as_it_is_when_they_change(self):
        inputs, breakpoints = {"n": 2}, {"b": ALWAYS}
        session = Session(parse(DOWN), inputs, breakpoints)
        inputs["n"] = 7
        breakpoints.clear()
        self.assertEqual(session.resume(), ("b", (("n", 2),), (), 1, None))

    def test_sessions_do_not_change_each_other(self):
        program = parse(DOWN)
        first, second = Session(program, {"n": 2}, {}), Session(program, {"n": 2}, {})
        first.resume()
        self.assertEqual(second.state(), ("a", (("n", 2),), (), 0, None))
        self.assertEqual(list(second), [])


class Everywhere(SessionTest):
    """Many programs, against a second reading of the words."""

    def test_commands_one_behind_the_other(self):
        state = 71
        refused = 0
        for program in some_programs("abcdef", 500, 61):
            inputs = {"x": state % 7, "y": 3 - state % 5}
            breakpoints = {"b": parse_expression("x < 4"), "d": ALWAYS, "e": parse_expression("x * 90000")}
            session, watched = Session(program, inputs, breakpoints), Watched(program, inputs, breakpoints)
            for _ in range(14):
                state = (state * 1103515245 + 12345) % 2 ** 31
                command = COMMANDS[(state >> 12) % len(COMMANDS)]
                arguments = [list(program)[(state >> 16) % len(program)]] if command == "run_to" and program else []
                if command == "run_to" and not arguments:
                    continue
                if command in ("step_over", "step_out") and not is_reducible(program.graph()):
                    refused += 1
                    with self.assertRaises(NotReducible):
                        getattr(session, command)()
                else:
                    if watched.many < 60 or command in ("step", "back"):
                        getattr(watched, command)(*arguments)
                        self.assertEqual(getattr(session, command)(*arguments), watched.state(),
                                         (program.text, command))
                self.assertEqual(session.state(), watched.state(), program.text)
                self.assertEqual(tuple(session), watched.look()[3])
        self.assertGreater(refused, 10)


if __name__ == "__main__":
    unittest.main()

"""Points 20 and 21 and the part restruct/lowering.py of the interface."""

import copy
import unittest

from restruct.errors import SourceFault
from restruct.lowering import lowered
from restruct.nodes import node_text
from restruct.statements import body_text, parse_body

DUPLICATE = "duplicate label"
IN_USE = "name is already in use"
NO_SCOPE = "no enclosing block or loop"
NO_LOOP = "no enclosing loop"
NO_NODE = "loop contains no node"
UNREACHABLE = "unreachable label"
TOO_MANY = "too many nodes"


# What the document says of where a body starts, followed through the text itself: a place is a
# tuple of the statements around it, each as (statement, the statements behind it).

class Forever(Exception):
    """Nothing but continues leads on."""


def start_by_words(rest, around):
    """The statement at which what stands from here on starts, with what is around it; None for the exit."""
    seen = []
    while True:
        if (rest, around) in seen:
            raise Forever
        seen.append((rest, around))
        if not rest:
            if not around:
                return None
            (_, rest), around = around[-1], around[:-1]
            continue
        first, behind = rest[0], rest[1:]
        if first[0] in ("node", "if"):
            return first, behind, around
        if first[0] in ("block", "loop"):
            rest, around = first[2], around + ((first, behind),)
        elif first[0] == "exit":
            return None
        else:
            at = max(at for at, (one, _) in enumerate(around) if one[0] != "if" and one[1] == first[1])
            one, behind = around[at]
            if first[0] == "break":
                rest, around = behind, around[:at]
            else:
                rest, around = one[2], around[:at + 1]


def nodes_by_words(body):
    """The entry and a dict from labels to (deed, targets), of the nodes that are reachable."""
    waiting = [(body, ())]
    starts, nodes = [], {}
    for place in waiting:
        start = start_by_words(*place)
        starts.append("exit" if start is None else start[0][1])
        if start is not None and start[0][1] not in nodes:
            statement, behind, around = start
            if statement[0] == "node":
                deed, places = statement[2], [(behind, around)]
            else:
                inner = around + ((statement, behind),)
                deed, places = ("if", statement[2]), [(statement[3], inner), (statement[4], inner)]
            targets = []
            for further in places:
                start = start_by_words(*further)
                targets.append("exit" if start is None else start[0][1])
            nodes[statement[1]] = deed, tuple(targets)
            waiting.extend(places)
    return starts[0], nodes


class Maker:
    """Makes bodies that differ much from each other, the same ones in each run of the tests."""

    def __init__(self, state):
        self.state = state
        self.labels = 0

    def below(self, limit):
        self.state = (self.state * 1103515245 + 12345) % 2 ** 31
        return (self.state >> 12) % limit

    def body(self, depth, around):
        return tuple(self.statement(depth, around) for _ in range(self.below(4) if depth else self.below(2)))

    def label(self):
        self.labels += 1
        return f"n.{self.labels + 1}"

    def statement(self, depth, around):
        kind = self.below(10)
        if depth > 0 and kind < 2:
            return "if", self.label(), ("variable", "x"), self.body(depth - 1, around), self.body(depth - 1, around)
        if depth > 0 and kind < 4:
            # Names stand side by side more than once, but never within one another.
            one = (("block", "loop")[self.below(2)], "pqrst"[len(around)])
            return *one, self.body(depth - 1, around + (one,))
        loops = [one for one in around if one[0] == "loop"]
        if loops and kind < 6:
            return "continue", loops[self.below(len(loops))][1]
        if around and kind < 8:
            return "break", around[self.below(len(around))][1]
        return ("exit",) if kind == 8 else ("node", self.label(), ("print", ("number", kind)))


class LoweringTest(unittest.TestCase):

    def assert_nodes(self, text, entry, *lines):
        """The lowered body has this entry and the nodes of these lines, in this order."""
        first, nodes = lowered(parse_body(text.replace("; ", "\n")))
        self.assertEqual((first, [node_text(node) for node in nodes]), (entry, list(lines)), text)

    def assert_fault(self, text, reason, label=None):
        with self.assertRaises(SourceFault, msg=text) as caught:
            lowered(parse_body(text.replace("; ", "\n")))
        self.assertEqual((caught.exception.reason, caught.exception.label), (reason, label), text)


class Starts(LoweringTest):
    """Point 20."""

    def test_the_example_of_the_interface(self):
        body = parse_body("loop r {\na: if x {\nb: x = x - 1\ncontinue r\n}\n}")
        minus = ("-", ("variable", "x"), ("number", 1))
        nodes = [("a", ("if", ("variable", "x")), ("b", "exit")), ("b", ("set", "x", minus), ("a",))]
        self.assertEqual(lowered(body), ("a", nodes))

    def test_kinds_of_values(self):
        value = lowered(parse_body("a: if x {\nb: print x\n}"))
        self.assertEqual([type(part) for part in value], [str, list])
        self.assertIs(type(value), tuple)
        for node in value[1]:
            self.assertIs(type(node), tuple)
            self.assertIs(type(node[2]), tuple)

    def test_the_list_is_new_and_the_body_stays_as_it_is(self):
        body = parse_body("loop r {\na: if x {\nb: x = x - 1\ncontinue r\n}\n}")
        before = copy.deepcopy(body)
        lowered(body)[1].append("x")
        self.assertEqual(len(lowered(body)[1]), 2)
        self.assertEqual(body, before)

    def test_the_empty_body(self):
        self.assertEqual(lowered(()), ("exit", []))

    def test_an_exit_at_the_start(self):
        self.assert_nodes("exit", "exit")
        self.assert_nodes("block b {; exit; }", "exit")
        self.assert_nodes("loop r {; exit; continue r; }", "exit")

    def test_nodes(self):
        self.assert_nodes("a: x = 1", "a", "a: x = 1 goto exit")
        self.assert_nodes("a: x = 1; b: print x; c: y = 2", "a", "a: x = 1 goto b", "b: print x goto c",
                          "c: y = 2 goto exit")

    def test_in_the_order_of_the_text(self):
        self.assert_nodes("b: if x {; d: x = 1; } else {; a: x = 2; }; c: print x", "b", "b: if x goto d else a",
                          "d: x = 1 goto c", "a: x = 2 goto c", "c: print x goto exit")

    def test_an_exit_behind_a_node(self):
        self.assert_nodes("a: x = 1; exit", "a", "a: x = 1 goto exit")
        self.assert_nodes("a: if x {; exit; }; b: x = 1", "a", "a: if x goto exit else b", "b: x = 1 goto exit")
        self.assert_nodes("loop r {; block b {; a: x = 1; exit; }; continue r; }", "a", "a: x = 1 goto exit")

    def test_conditionals(self):
        self.assert_nodes("a: if x {; b: x = 1; c: x = 2; }; d: x = 3", "a", "a: if x goto b else d", "b: x = 1 goto c",
                          "c: x = 2 goto d", "d: x = 3 goto exit")
        self.assert_nodes("a: if x {; b: x = 1; } else {; c: x = 2; }", "a", "a: if x goto b else c",
                          "b: x = 1 goto exit", "c: x = 2 goto exit")
        self.assert_nodes("a: if x {; b: if y {; c: x = 1; }; }; d: x = 2", "a", "a: if x goto b else d",
                          "b: if y goto c else d", "c: x = 1 goto d", "d: x = 2 goto exit")

    def test_empty_branches(self):
        self.assert_nodes("a: if x {; }", "a", "a: if x goto exit else exit")
        self.assert_nodes("a: if x {; }; b: x = 1", "a", "a: if x goto b else b", "b: x = 1 goto exit")
        self.assert_nodes("a: if x {; } else {; b: x = 1; }; c: x = 2", "a", "a: if x goto c else b",
                          "b: x = 1 goto c", "c: x = 2 goto exit")
        self.assert_nodes("a: if x {; block b {; }; }; b: x = 1", "a", "a: if x goto b else b", "b: x = 1 goto exit")

    def test_blocks(self):
        self.assert_nodes("block b {; a: x = 1; }; c: x = 2", "a", "a: x = 1 goto c", "c: x = 2 goto exit")
        self.assert_nodes("block b {; block c {; a: x = 1; }; }", "a", "a: x = 1 goto exit")

    def test_a_loop_is_repeated_by_continue_alone(self):
        self.assert_nodes("loop r {; a: x = 1; }; b: x = 2", "a", "a: x = 1 goto b", "b: x = 2 goto exit")
        self.assert_nodes("loop r {; a: x = 1; continue r; }", "a", "a: x = 1 goto a")
        self.assert_nodes("loop r {; a: if x {; continue r; }; b: x = 2; }", "a", "a: if x goto a else b",
                          "b: x = 2 goto exit")

    def test_empty_blocks_and_loops(self):
        for kind in ("block", "loop"):
            self.assert_nodes(f"{kind} b {{; }}", "exit")
            self.assert_nodes(f"{kind} b {{; }}; a: x = 1", "a", "a: x = 1 goto exit")
            self.assert_nodes(f"a: x = 1; {kind} b {{; }}; c: x = 2", "a", "a: x = 1 goto c", "c: x = 2 goto exit")
            self.assert_nodes(f"{kind} b {{; {kind} c {{; }}; }}; a: x = 1", "a", "a: x = 1 goto exit")
            self.assert_nodes(f"loop r {{; a: x = 1; {kind} b {{; }}; continue r; }}", "a", "a: x = 1 goto a")

    def test_a_break_leads_to_what_follows(self):
        for kind in ("block", "loop"):
            self.assert_nodes(f"{kind} b {{; a: if x {{; break b; }}; c: x = 1; }}; d: x = 2", "a",
                              "a: if x goto d else c", "c: x = 1 goto d", "d: x = 2 goto exit")
            self.assert_nodes(f"{kind} b {{; a: x = 1; break b; }}", "a", "a: x = 1 goto exit")
            self.assert_nodes(f"{kind} b {{; break b; }}; a: x = 1", "a", "a: x = 1 goto exit")

    def test_breaks_out_of_several_blocks_and_loops(self):
        text = ("block b {; loop r {; block c {; a: if x {; break b; } else {; d: if y {; break c; } else {; "
                "e: if z {; break r; }; }; }; f: x = 1; }; g: x = 2; continue r; }; h: x = 3; }; i: x = 4")
        self.assert_nodes(text, "a", "a: if x goto i else d", "d: if y goto g else e", "e: if z goto h else f",
                          "f: x = 1 goto g", "g: x = 2 goto a", "h: x = 3 goto i", "i: x = 4 goto exit")

    def test_a_break_with_the_name_of_a_block_within_a_block_of_another_name(self):
        self.assert_nodes("block b {; block c {; a: x = 1; break b; }; }; d: x = 2", "a", "a: x = 1 goto d",
                          "d: x = 2 goto exit")
        self.assert_nodes("block b {; block c {; a: if x {; break b; }; }; e: x = 1; }; d: x = 2", "a",
                          "a: if x goto d else e", "e: x = 1 goto d", "d: x = 2 goto exit")
        self.assert_nodes("block b {; block c {; a: if x {; break c; }; e: x = 1; break b; }; f: x = 3; }; d: x = 2",
                          "a", "a: if x goto f else e", "e: x = 1 goto d", "f: x = 3 goto d", "d: x = 2 goto exit")

    def test_a_continue_of_an_outer_loop(self):
        self.assert_nodes("loop r {; a: x = 1; loop s {; b: if x {; continue r; }; c: if y {; continue s; }; }; }", "a",
                          "a: x = 1 goto b", "b: if x goto a else c", "c: if y goto b else exit")
        self.assert_nodes("loop r {; block b {; a: x = 1; continue r; }; }", "a", "a: x = 1 goto a")

    def test_the_body_of_a_loop_that_starts_within_other_statements(self):
        self.assert_nodes("loop r {; block b {; loop s {; a: if x {; continue r; } else {; continue s; }; }; }; }", "a",
                          "a: if x goto a else a")
        self.assert_nodes("loop r {; block b {; break b; }; a: x = 1; continue r; }", "a", "a: x = 1 goto a")

    def test_the_innermost_of_the_names_that_fit(self):
        # The same name may stand again behind its block or loop, and in the other branch.
        self.assert_nodes("block b {; a: if x {; break b; }; c: x = 1; }; "
                          "block b {; d: if x {; break b; }; e: x = 2; }", "a", "a: if x goto d else c",
                          "c: x = 1 goto d", "d: if x goto exit else e", "e: x = 2 goto exit")
        self.assert_nodes("loop r {; a: if x {; continue r; }; }; loop r {; b: if x {; continue r; }; }", "a",
                          "a: if x goto a else b", "b: if x goto b else exit")
        self.assert_nodes("a: if x {; block b {; c: x = 1; break b; }; d: x = 2; } else {; loop b {; e: x = 3; "
                          "continue b; }; }", "a", "a: if x goto c else e", "c: x = 1 goto d", "d: x = 2 goto exit",
                          "e: x = 3 goto e")

    def test_names_that_are_labels_of_nodes(self):
        self.assert_nodes("loop a {; a: if x {; continue a; }; break a; }; block c {; c: x = 1; break c; }", "a",
                          "a: if x goto a else c", "c: x = 1 goto exit")

    def test_names_and_labels_with_a_dot(self):
        self.assert_nodes("block b {; block b.2 {; a.2: if x {; break b; }; a: if y {; break b.2; }; exit; }; "
                          "a.3: x = 1; }; a.4: x = 2", "a.2", "a.2: if x goto a.4 else a", "a: if y goto a.3 else exit",
                          "a.3: x = 1 goto a.4", "a.4: x = 2 goto exit")

    def test_the_end_of_a_branch_within_a_loop(self):
        self.assert_nodes("loop r {; a: if x {; b: x = 1; } else {; c: x = 2; }; continue r; }", "a",
                          "a: if x goto b else c", "b: x = 1 goto a", "c: x = 2 goto a")

    def test_sixty_statements_within_one_another(self):
        names = [f"{one}{other}" for one in "pqr" for other in "abcdefghijklmnopqrst"]
        for kind in ("block", "loop"):
            start = "; ".join([f"{kind} {name} {{" for name in names])
            end = "; ".join(["}"] * 60)
            for name in names:
                self.assert_nodes(f"{start}; a: print x; break {name}; {end}; c: x = 1", "a", "a: print x goto c",
                                  "c: x = 1 goto exit")
                if kind == "loop":
                    self.assert_nodes(f"{start}; a: print x; continue {name}; {end}", "a", "a: print x goto a")

    def test_many_bodies(self):
        tried = {"": 0, UNREACHABLE: 0, NO_NODE: 0, TOO_MANY: 0}
        for state in range(5000):
            body = Maker(state).body(4, ())
            try:
                entry, nodes = lowered(body)
            except SourceFault as fault:
                tried[fault.reason] += 1
                if fault.reason == UNREACHABLE:
                    _, by_label = nodes_by_words(body)
                    labels = [line.split(":")[0].strip() for line in body_text(body).split("\n") if ":" in line]
                    self.assertEqual(fault.label, [label for label in labels if label not in by_label][0])
                continue
            tried[""] += len(nodes) > 2
            expected, by_label = nodes_by_words(body)
            self.assertEqual(entry, expected, body_text(body))
            self.assertEqual({label: (deed, targets) for label, deed, targets in nodes}, by_label, body_text(body))
        self.assertGreater(min(tried[""], tried[UNREACHABLE], tried[NO_NODE]), 300)


class Faults(LoweringTest):
    """Point 21."""

    def test_duplicate_labels(self):
        self.assert_fault("a: x = 1; a: x = 2", DUPLICATE, "a")
        self.assert_fault("a: x = 1; a: x = 1", DUPLICATE, "a")
        self.assert_fault("a: if x {; a: x = 2; }", DUPLICATE, "a")
        self.assert_fault("a: x = 1; b: if x {; c: x = 1; } else {; a: x = 2; }", DUPLICATE, "a")
        self.assert_fault("b: if x {; c: x = 1; } else {; c: x = 2; }", DUPLICATE, "c")
        self.assert_fault("loop r {; c: x = 1; block b {; c: if x {; }; }; }", DUPLICATE, "c")
        self.assert_fault("a.2: x = 1; a: x = 2; a.2: x = 3", DUPLICATE, "a.2")

    def test_the_first_duplicate_label_is_that_of_the_first_node(self):
        self.assert_fault("a: x = 1; b: x = 2; b: x = 3; a: x = 4", DUPLICATE, "a")
        self.assert_fault("a: x = 1; b: if x {; c: x = 1; b: x = 2; } else {; c: x = 3; }", DUPLICATE, "b")
        self.assert_fault("c: x = 1; a: x = 2; b: x = 3; b: x = 4; a: x = 5", DUPLICATE, "a")

    def test_names_of_blocks_and_loops_are_no_duplicate_labels(self):
        self.assert_nodes("block a {; a: x = 1; }; loop a {; b: x = 2; }", "a", "a: x = 1 goto b", "b: x = 2 goto exit")

    def test_names_in_use(self):
        for outer in ("block", "loop"):
            for inner in ("block", "loop"):
                self.assert_fault(f"{outer} b {{; {inner} b {{; a: x = 1; }}; }}", IN_USE, "b")
                self.assert_fault(f"{outer} b {{; {inner} c {{; {inner} b {{; }}; }}; }}", IN_USE, "b")
                self.assert_fault(f"{outer} b {{; a: if x {{; }} else {{; {inner} b {{; }}; }}; }}", IN_USE, "b")
                self.assert_fault(f"{outer} b.2 {{; {inner} b.2 {{; }}; }}", IN_USE, "b.2")
                self.assert_nodes(f"{outer} b {{; }}; {inner} b {{; }}", "exit")
                self.assert_nodes(f"{outer} b {{; {inner} b.2 {{; }}; }}", "exit")

    def test_breaks_without_a_block_or_loop(self):
        self.assert_fault("break b", NO_SCOPE, "b")
        self.assert_fault("a: x = 1; break a", NO_SCOPE, "a")
        self.assert_fault("a: if x {; break a; }", NO_SCOPE, "a")
        self.assert_fault("block b {; }; break b", NO_SCOPE, "b")
        self.assert_fault("break b; block b {; }", NO_SCOPE, "b")
        self.assert_fault("block b {; a: x = 1; break c; }", NO_SCOPE, "c")
        self.assert_fault("block b {; break b.2; }", NO_SCOPE, "b.2")
        self.assert_fault("a: if x {; loop r {; }; } else {; break r; }", NO_SCOPE, "r")

    def test_continues_without_a_loop(self):
        self.assert_fault("continue r", NO_LOOP, "r")
        self.assert_fault("a: x = 1; continue a", NO_LOOP, "a")
        self.assert_fault("a: if x {; continue a; }", NO_LOOP, "a")
        self.assert_fault("loop r {; a: x = 1; }; continue r", NO_LOOP, "r")
        self.assert_fault("loop r {; a: x = 1; continue s; }", NO_LOOP, "s")
        self.assert_fault("loop r {; continue r.2; }", NO_LOOP, "r.2")

    def test_continues_of_blocks(self):
        self.assert_fault("block b {; a: x = 1; continue b; }", NO_LOOP, "b")
        self.assert_fault("loop r {; block b {; a: x = 1; continue b; }; }", NO_LOOP, "b")
        self.assert_fault("block b {; loop r {; a: x = 1; continue b; }; }", NO_LOOP, "b")

    def test_names_in_the_order_of_the_text(self):
        self.assert_fault("break b; continue r; block c {; block c {; }; }", NO_SCOPE, "b")
        self.assert_fault("continue r; break b; block c {; block c {; }; }", NO_LOOP, "r")
        self.assert_fault("block c {; block c {; continue c; }; }; break b", IN_USE, "c")
        self.assert_fault("loop c {; block c {; continue c; }; break b; }", IN_USE, "c")
        self.assert_fault("block c {; break b; block c {; }; }", NO_SCOPE, "b")
        self.assert_fault("a: if x {; break b; } else {; continue r; }", NO_SCOPE, "b")
        self.assert_fault("a: if x {; } else {; continue r; }; break b", NO_LOOP, "r")
        self.assert_fault("break c; break b", NO_SCOPE, "c")

    def test_names_where_nothing_is_reachable(self):
        self.assert_fault("exit; break b", NO_SCOPE, "b")
        self.assert_fault("exit; continue r", NO_LOOP, "r")
        self.assert_fault("exit; block b {; block b {; }; }", IN_USE, "b")

    def test_loops_without_a_node_at_the_entry(self):
        self.assert_fault("loop r {; continue r; }", NO_NODE)
        self.assert_fault("loop r {; block b {; break b; }; continue r; }", NO_NODE)
        self.assert_fault("block b {; loop r {; loop s {; }; continue r; }; }", NO_NODE)
        self.assert_fault("loop r {; continue r; }; a: x = 1", NO_NODE)
        self.assert_fault("loop r {; continue r; a: x = 1; }", NO_NODE)

    def test_loops_without_a_node_at_a_target(self):
        self.assert_fault("a: x = 1; loop r {; continue r; }", NO_NODE)
        self.assert_fault("block b {; a: x = 1; break b; }; loop r {; continue r; }", NO_NODE)
        self.assert_fault("loop s {; a: x = 1; block b {; loop r {; continue r; }; }; continue s; }", NO_NODE)

    def test_loops_without_a_node_at_the_start_of_a_branch(self):
        self.assert_fault("a: if x {; loop r {; continue r; }; }", NO_NODE)
        self.assert_fault("a: if x {; } else {; loop r {; continue r; }; }", NO_NODE)
        self.assert_fault("a: if x {; b: x = 1; }; loop r {; continue r; }", NO_NODE)

    def test_two_loops_in_one_another_without_a_node(self):
        self.assert_fault("loop r {; loop s {; continue r; }; }", NO_NODE)
        self.assert_fault("loop r {; loop s {; continue s; }; }", NO_NODE)
        self.assert_fault("loop r {; loop s {; break s; }; continue r; }", NO_NODE)
        self.assert_fault("a: x = 1; loop r {; loop s {; break s; }; continue r; }", NO_NODE)

    def test_a_loop_without_a_node_that_nothing_leads_to(self):
        self.assert_nodes("exit; loop r {; continue r; }", "exit")
        self.assert_nodes("a: x = 1; exit; loop r {; continue r; }", "a", "a: x = 1 goto exit")
        self.assert_nodes("block b {; a: x = 1; break b; loop r {; continue r; }; }", "a", "a: x = 1 goto exit")

    def test_a_loop_without_a_node_behind_a_node_that_is_not_reachable(self):
        self.assert_fault("exit; a: x = 1; loop r {; continue r; }", NO_NODE)
        self.assert_fault("exit; a: if x {; } else {; loop r {; continue r; }; }", NO_NODE)

    def test_loops_that_are_left_without_a_node(self):
        self.assert_nodes("loop r {; break r; }; a: x = 1", "a", "a: x = 1 goto exit")
        self.assert_nodes("loop r {; loop s {; break r; }; continue r; }", "exit")
        self.assert_nodes("loop r {; }", "exit")

    def test_unreachable_labels(self):
        self.assert_fault("exit; a: x = 1", UNREACHABLE, "a")
        self.assert_fault("a: x = 1; exit; b: x = 2; c: x = 3", UNREACHABLE, "b")
        self.assert_fault("exit; a: if x {; b: x = 1; }", UNREACHABLE, "a")
        for kind in ("block", "loop"):
            self.assert_fault(f"{kind} b {{; a: x = 1; break b; c: x = 2; }}; d: x = 3", UNREACHABLE, "c")
        self.assert_fault("loop r {; a: x = 1; continue r; b: x = 2; }", UNREACHABLE, "b")
        self.assert_fault("loop r {; a: x = 1; continue r; }; b: if x {; }", UNREACHABLE, "b")
        self.assert_fault("a: if x {; exit; } else {; exit; }; b.2: x = 1", UNREACHABLE, "b.2")
        self.assert_fault("a: if x {; exit; b: x = 1; }; c: x = 1", UNREACHABLE, "b")

    def test_unreachable_labels_that_lead_to_each_other(self):
        self.assert_fault("a: x = 1; exit; loop r {; b: x = 2; c: x = 3; continue r; }", UNREACHABLE, "b")
        self.assert_fault("exit; loop r {; c: x = 2; b: x = 3; continue r; }", UNREACHABLE, "c")

    def test_the_first_unreachable_label_in_the_order_of_the_text(self):
        self.assert_fault("a: if x {; exit; d: x = 1; } else {; exit; c: x = 1; }; b: x = 1", UNREACHABLE, "d")
        self.assert_fault("exit; z: x = 1; b: x = 2; a: x = 3", UNREACHABLE, "z")

    def test_what_is_no_node_and_not_reachable_is_no_error(self):
        self.assert_nodes("block b {; a: x = 1; exit; break b; }", "a", "a: x = 1 goto exit")
        self.assert_nodes("loop r {; a: x = 1; break r; continue r; exit; break r; }", "a", "a: x = 1 goto exit")
        self.assert_nodes("exit; exit; block b {; loop r {; continue r; break b; }; }", "exit")
        self.assert_nodes("a: x = 1; exit; block b {; }", "a", "a: x = 1 goto exit")

    def test_too_many_nodes(self):
        many = [f"n.{at}: x = {at}" for at in range(2, 23)]
        self.assertEqual(len(lowered(parse_body("\n".join(many[:20])))[1]), 20)
        self.assert_fault("; ".join(many), TOO_MANY)
        inner = [f"i.{at}: if x {{" for at in range(2, 23)]
        self.assertEqual(len(lowered(parse_body("\n".join(inner[:20] + ["}"] * 20)))[1]), 20)
        self.assert_fault("; ".join(inner + ["}"] * 21), TOO_MANY)
        self.assert_fault("; ".join(many[:10] + inner[:11] + ["}"] * 11), TOO_MANY)
        self.assert_fault("; ".join(many + [f"m.{at}: print x" for at in range(2, 90)]), TOO_MANY)

    def test_statements_that_are_no_nodes_do_not_count(self):
        many = [f"n.{at}: x = {at}" for at in range(2, 22)]
        text = "; ".join(["loop r {", "block b {"] + many + ["break b", "}", "continue r", "}"])
        self.assertEqual(len(lowered(parse_body(text.replace("; ", "\n")))[1]), 20)

    def test_the_order_of_the_reasons(self):
        """Each fault stands in the text ahead of the one that counts more."""
        many = "; ".join(f"n.{at}: x = {at}" for at in range(2, 23))
        faults = ((f"{many}", TOO_MANY, None), ("exit; u: x = 1", UNREACHABLE, "u"),
                  ("a: if x {; loop r {; continue r; }; }", NO_NODE, None), ("break b", NO_SCOPE, "b"),
                  ("d: x = 1; d: x = 2", DUPLICATE, "d"))
        for later in range(len(faults)):
            for sooner in range(later + 1):
                text = f"{faults[sooner][0]}; {faults[later][0]}"
                if sooner == later:
                    text = faults[later][0]
                self.assert_fault(text, faults[later][1], faults[later][2])
        self.assert_fault("; ".join(text for text, _, _ in faults), DUPLICATE, "d")
        self.assert_fault("; ".join(text for text, _, _ in faults[:4]), NO_SCOPE, "b")
        self.assert_fault("; ".join(text for text, _, _ in faults[:3]), NO_NODE)
        self.assert_fault("; ".join(text for text, _, _ in faults[:2]), UNREACHABLE, "u")
        for name_fault, reason, name in (("continue c", NO_LOOP, "c"), ("block c {; block c {; }; }", IN_USE, "c")):
            self.assert_fault(f"loop r {{; continue r; }}; {name_fault}", reason, name)
            self.assert_fault(f"{name_fault}; d: x = 1; d: x = 2", DUPLICATE, "d")


if __name__ == "__main__":
    unittest.main()

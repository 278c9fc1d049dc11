"""Points 27 to 29 and the part restruct/splitting.py of the interface."""

import copy
import unittest
from itertools import product

from restruct.errors import TooMany, WorkError
from restruct.graphs import is_reducible, order_of
from restruct.programs import Program, normalized
from restruct.splitting import split
from test_graphs import order_by_words, reducible_by_cycles, some_graphs
from test_structuring import program_of

CROSSING = "a: if x goto b else c; b: print b goto c; c: print c goto b"
COMPLETE = "a: if x goto b else c; b: if y goto c else d; c: if z goto b else d; d: if w goto b else c"
# The splitting of this program has exactly 60 states.
SIXTY = ("a: if x goto d else b; b: if x goto l else j; j: if x goto d else k; k: if x goto f else k; "
         "f: if x goto e else d; d: if x goto l else e; l: if x goto g else f; g: if x goto g else h; "
         "e: if x goto f else h; h: if x goto b else k")


# What the document says of components and states, looked at in another way than the program does
# it: by the pairs of labels between which a path leads, and by a search that calls itself.

def component_by_words(graph, label, region, header):
    """The component of a label in a region, which is a set of labels, with a header or None."""
    _, targets = graph
    leads = {(one, other) for one in region for other in targets[one] if other in region and other != header}
    for middle in sorted(region):
        leads |= {(one, other) for one, other in product(region, repeat=2)
                  if (one, middle) in leads and (middle, other) in leads}
    return {other for other in region if (label, other) in leads and (other, label) in leads}


def headers_by_words(graph, headers, label):
    """The headers of the state of a label to which an edge leads from a state with some headers."""
    region, barred = set(order_by_words(graph)), None
    found = []
    for header in headers:
        part = component_by_words(graph, header, region, barred)
        if label not in part:
            break
        found.append(header)
        if label == header:
            return tuple(found)
        region, barred = part, header
    if label in component_by_words(graph, label, region, barred):
        found.append(label)
    return tuple(found)


def states_by_words(graph):
    """The list of the states, and a dict from each to those of its targets (None for the exit)."""
    states, behind = [], {}

    def search(state):
        states.append(state)
        behind[state] = [None if target == "exit" else (target, headers_by_words(graph, state[1], target))
                         for target in graph[1][state[0]]]
        for other in behind[state]:
            if other is not None and other not in states:
                search(other)

    entry = graph[0]
    if entry != "exit":
        whole = set(order_by_words(graph))
        search((entry, (entry,) if entry in component_by_words(graph, entry, whole, None) else ()))
    return states, behind


def split_by_words(program):
    """The entry, the nodes and the origins of a split program."""
    states, behind = states_by_words(program.graph())
    labels = {}
    for label, headers in states:
        name = label
        if name in labels.values():
            name = next(f"{label.split('.')[0]}.{number}" for number in range(2, 100)
                        if f"{label.split('.')[0]}.{number}" not in [*program, *labels.values()])
        labels[label, headers] = name
    nodes = []
    for state in states:
        targets = tuple("exit" if other is None else labels[other] for other in behind[state])
        nodes.append((labels[state], program.node(state[0])[1], targets))
    return program.entry, nodes, tuple((labels[state], state[0]) for state in states)


class SplittingTest(unittest.TestCase):

    def parse(self, text):
        lines = text.split("; ")
        return Program.parse("\n".join([f"entry {lines[0].partition(':')[0]}", *lines]))

    def assert_split(self, text, lines, origins):
        """The program with these nodes is split into one with these lines, with these pairs."""
        program, pairs = split(self.parse(text))
        self.assertEqual(program.text, "\n".join([f"entry {text.partition(':')[0]}", *lines.split("; ")]), text)
        self.assertEqual(" ".join(f"{label}-{original}" for label, original in pairs), origins, text)

    def assert_same_steps(self, first, second, origins):
        """Each node of the second program is one of the first, and leads where that leads."""
        original = dict(origins)
        original["exit"] = "exit"
        self.assertEqual(original[second.entry], first.entry)
        for label, deed, targets in second.nodes:
            _, other, others = first.node(original[label])
            self.assertEqual((deed, tuple(original[target] for target in targets)), (other, others))


class Unchanged(SplittingTest):
    """A reducible program is not changed."""

    def test_no_nodes(self):
        program, pairs = split(Program("exit", ()))
        self.assertEqual((program.entry, program.nodes, pairs), ("exit", (), ()))

    def test_reducible_programs(self):
        for text in ("a: x = 1 goto exit", "a: x = 1 goto a", "a: if x goto b else c; b: print x goto c; "
                     "c: print x goto exit", "a: if x goto b else exit; b: if y goto a else b",
                     "a: if x goto b else c; b: print b goto d; c: print c goto d; d: if x goto a else exit"):
            program, pairs = split(self.parse(text))
            self.assertEqual(program, self.parse(text))
            self.assertEqual(sorted(pairs), sorted((label, label) for label in program))

    def test_the_pairs_are_in_the_order_of_the_states(self):
        # The states are found with the then-target first, but c stands behind b in order.
        text = "a: if x goto b else c; b: print b goto exit; c: print c goto b"
        self.assertEqual(list(self.parse(text)), ["a", "c", "b"])
        self.assert_split(text, "a: if x goto b else c; c: print c goto b; b: print b goto exit", "a-a b-b c-c")

    def test_all_reducible_programs_of_three_nodes(self):
        rows = list(product(("a", "b", "c", "exit"), repeat=2))
        many = 0
        for row in product(rows, repeat=3):
            program = program_of(("a", dict(zip("abc", row))))
            if is_reducible(program.graph()):
                many += 1
                second, pairs = split(program)
                self.assertEqual(second, program)
                self.assertEqual(sorted(pairs), sorted((label, label) for label in program))
        self.assertGreater(many, 3000)

    def test_twenty_nodes(self):
        labels = [f"n.{number}" for number in range(2, 22)]
        lines = [f"{label}: if x goto {behind} else n.2" for label, behind in zip(labels, labels[1:] + ["exit"])]
        program, pairs = split(self.parse("; ".join(lines)))
        self.assertEqual(program, self.parse("; ".join(lines)))
        self.assertEqual(pairs, tuple((label, label) for label in labels))

    def test_a_split_program_is_not_changed(self):
        for text in (CROSSING, COMPLETE, SIXTY):
            program, _ = split(self.parse(text))
            again, pairs = split(program)
            self.assertEqual(again, program)
            self.assertEqual(sorted(pairs), sorted((label, label) for label in program))


class States(SplittingTest):

    def test_a_cycle_with_two_entries(self):
        self.assert_split(CROSSING, "a: if x goto b else c.2; b: print b goto c; c: print c goto b; "
                          "c.2: print c goto b.2; b.2: print b goto c.2", "a-a b-b c-c c.2-c b.2-b")

    def test_the_then_target_is_found_first(self):
        self.assert_split("a: if x goto c else b; b: print b goto c; c: print c goto b",
                          "a: if x goto c else b.2; c: print c goto b; b: print b goto c; "
                          "b.2: print b goto c.2; c.2: print c goto b.2", "a-a c-c b-b b.2-b c.2-c")

    def test_the_exit_has_no_state(self):
        self.assert_split("a: if x goto b else c; b: print b goto c; c: if y goto b else exit",
                          "a: if x goto b else c.2; b: print b goto c; c: if y goto b else exit; "
                          "c.2: if y goto b.2 else exit; b.2: print b goto c.2", "a-a b-b c-c c.2-c b.2-b")

    def test_the_entry_in_a_component(self):
        # The state of the entry has itself as its header, which b and c have, too.
        self.assert_split("a: if x goto b else c; b: if y goto a else c; c: if y goto b else a",
                          "a: if x goto b else c.2; b: if y goto a else c; c: if y goto b else a; "
                          "c.2: if y goto b.2 else a; b.2: if y goto a else c.2", "a-a b-b c-c c.2-c b.2-b")

    def test_headers_within_headers(self):
        self.assert_split(COMPLETE, "a: if x goto b else c.3; b: if y goto c else d.2; c: if z goto b else d; "
                          "d: if w goto b else c; d.2: if w goto b else c.2; c.2: if z goto b else d.2; "
                          "c.3: if z goto b.2 else d.4; b.2: if y goto c.3 else d.3; d.3: if w goto b.2 else c.3; "
                          "d.4: if w goto b.3 else c.3; b.3: if y goto c.3 else d.4",
                          "a-a b-b c-c d-d d.2-d c.2-c c.3-c b.2-b d.3-d d.4-d b.3-b")

    def test_a_component_that_is_left(self):
        # d and e lie behind the component of b and c, so they are not duplicated.
        self.assert_split("a: if x goto b else c; b: if y goto d else c; c: if z goto b else d; d: print d goto e; "
                          "e: if w goto d else exit",
                          "a: if x goto b else c.2; b: if y goto d else c; c: if z goto b else d; "
                          "c.2: if z goto b.2 else d; b.2: if y goto d else c.2; d: print d goto e; "
                          "e: if w goto d else exit", "a-a b-b d-d e-e c-c c.2-c b.2-b")

    def test_a_node_that_repeats_itself_within_a_component(self):
        self.assert_split("a: if x goto b else c; b: if y goto b else c; c: print c goto b",
                          "a: if x goto b else c.2; b: if y goto b else c; c: print c goto b; "
                          "c.2: print c goto b.2; b.2: if y goto b.2 else c.2", "a-a b-b c-c c.2-c b.2-b")

    def test_one_component_behind_another(self):
        text = ("a: if x goto b else c; b: print b goto c; c: if y goto b else d; d: if z goto e else f; "
                "e: print e goto f; f: print f goto e")
        program, pairs = split(self.parse(text))
        self.assertEqual(" ".join(label for label, _ in pairs), "a b c d e f f.2 e.2 c.2 b.2")
        self.assertTrue(is_reducible(program.graph()))


class Labels(SplittingTest):

    def test_labels_that_have_a_number_already(self):
        self.assert_split("a: if x goto b.7 else c; b.7: print b goto c; c: print c goto b.7",
                          "a: if x goto b.7 else c.2; b.7: print b goto c; c: print c goto b.7; "
                          "c.2: print c goto b.2; b.2: print b goto c.2", "a-a b.7-b.7 c-c c.2-c b.2-b.7")

    def test_numbers_that_are_labels_of_the_program(self):
        self.assert_split("a: if x goto b.2 else c; b.2: print b goto c; c: if y goto b.2 else c.2; "
                          "c.2: print x goto c.4; c.4: print x goto exit",
                          "a: if x goto b.2 else c.3; b.2: print b goto c; c: if y goto b.2 else c.2; "
                          "c.3: if y goto b.3 else c.2; b.3: print b goto c.3; c.2: print x goto c.4; "
                          "c.4: print x goto exit", "a-a b.2-b.2 c-c c.2-c.2 c.4-c.4 c.3-c b.3-b.2")

    def test_numbers_of_labels_that_are_found_later(self):
        # c.2 is a label of the program, but its own state comes behind that of the further c.
        text = ("a: if x goto b else d; b: if x goto e else c; e: print e goto c; c: print c goto e; "
                "d: print d goto c.2; c.2: print x goto exit")
        program, pairs = split(self.parse(text))
        self.assertEqual(" ".join(f"{label}-{original}" for label, original in pairs),
                         "a-a b-b e-e c-c c.3-c e.2-e d-d c.2-c.2")
        self.assertEqual(program.node("c.2"), ("c.2", ("print", ("variable", "x")), ("exit",)))

    def test_numbers_that_were_given_to_an_earlier_state(self):
        self.assert_split("a: if x goto b.7 else b; b.7: print b goto b; b: print c goto b.7",
                          "a: if x goto b.7 else b.2; b.7: print b goto b; b: print c goto b.7; "
                          "b.2: print c goto b.3; b.3: print b goto b.2", "a-a b.7-b.7 b-b b.2-b b.3-b.7")

    def test_labels_that_are_not_reachable_are_free(self):
        program = Program.parse("entry a\na: if x goto b else c\nb: print b goto c\nc: print c goto b\n"
                                "c.2: print x goto b")
        self.assertEqual([label for label, _ in split(program)[1]], ["a", "b", "c", "c.2", "b.2"])

    def test_the_deeds_are_those_of_the_original_labels(self):
        program = self.parse(COMPLETE)
        second, pairs = split(program)
        for label, original in pairs:
            self.assertEqual(second.node(label)[1], program.node(original)[1])


class Limit(SplittingTest):

    def test_sixty_states(self):
        program, pairs = split(self.parse(SIXTY))
        self.assertEqual((len(program), len(pairs)), (60, 60))
        self.assertEqual(sorted(label for label, _ in pairs), sorted(program))
        self.assertTrue(is_reducible(program.graph()))

    def test_sixty_one_states(self):
        with self.assertRaises(TooMany):
            split(self.parse(f"z: print x goto a; {SIXTY}"))
        self.assertTrue(issubclass(TooMany, WorkError))

    def test_far_too_many(self):
        labels = [f"n.{number}" for number in range(2, 22)]
        lines = [f"{label}: if x goto {labels[at - 7]} else {labels[at - 10]}" for at, label in enumerate(labels)]
        with self.assertRaises(TooMany):
            split(self.parse("; ".join(lines)))


class Everywhere(SplittingTest):

    def check(self, program):
        """The split program is that of the words, normalized and reducible, and does the same."""
        entry, nodes, origins = split_by_words(program)
        if len(nodes) > 60:
            with self.assertRaises(TooMany, msg=program.text):
                split(program)
            return
        second, pairs = split(program)
        self.assertEqual(second, normalized(entry, nodes), program.text)
        self.assertEqual(len(second), len(nodes))
        self.assertEqual(pairs, origins, program.text)
        self.assertTrue(is_reducible(second.graph()), program.text)
        self.assertEqual(order_of(second.graph()), tuple(second))
        self.assert_same_steps(program, second, pairs)

    def test_all_irreducible_programs_of_three_nodes(self):
        rows = list(product(("a", "b", "c", "exit"), repeat=2))
        for row in product(rows, repeat=3):
            program = program_of(("a", dict(zip("abc", row))))
            if not is_reducible(program.graph()):
                self.check(program)

    def test_some_programs_of_more_nodes(self):
        changed = 0
        for labels, start in (("abcd", 31), ("abcde", 32), ("abcdef", 33), ("abcdefgh", 34)):
            for graph in some_graphs(labels, 150, start):
                self.check(program_of(graph))
                changed += not reducible_by_cycles(graph)
        self.assertGreater(changed, 50)

    def test_programs_with_many_cycles(self):
        for text in (COMPLETE, SIXTY, f"z: print x goto a; {SIXTY}"):
            self.check(self.parse(text))
        for many in (5, 6):
            labels = "abcdef"[:many]
            lines = [f"{label}: if x goto {labels[at - 1]} else {labels[at - 2]}" for at, label in enumerate(labels)]
            self.check(self.parse("; ".join(lines)))


class Arguments(SplittingTest):

    def test_the_program_stays_as_it_is(self):
        program = self.parse(COMPLETE)
        before = copy.deepcopy((program.entry, program.nodes, program.text))
        split(program)
        self.assertEqual((program.entry, program.nodes, program.text), before)

    def test_kinds_of_values(self):
        value = split(self.parse(CROSSING))
        self.assertEqual([type(part) for part in value], [Program, tuple])
        self.assertIs(type(value), tuple)
        self.assertIs(type(value[0].nodes), tuple)
        for pair in value[1]:
            self.assertEqual([type(pair), len(pair)], [tuple, 2])
        for _, _, targets in value[0].nodes:
            self.assertIs(type(targets), tuple)


if __name__ == "__main__":
    unittest.main()

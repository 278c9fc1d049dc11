"""Points 33 to 36 and the part restruct/papers.py of the interface."""

import copy
import unittest
from itertools import combinations, product

from restruct.errors import TooMany
from restruct.lowering import lowered
from restruct.papers import chained, judges, search, split_paper, turned
from restruct.programs import Program, normalized
from restruct.runs import run
from restruct.splitting import split
from restruct.structuring import structured
from test_graphs import some_graphs
from test_runs import parse, some_programs
from test_structuring import program_of

LOOP = "entry a; a: if x goto b else exit; b: x = x - 1 goto a"
# The same runs as LOOP, with a turn written out.
TWICE = ("entry p; p: if x goto q else exit; q: x = x - 1 goto r; r: if x goto s else exit; s: x = x - 1 goto p")
CROSSING = "entry a; a: if x goto b else c; b: x = x - 1 goto c; c: if x goto b else exit"
LOOP_TWICE = (("a", "p"), ("b", "q"), ("a", "r"), ("b", "s"))


def takes_by_words(first, second, paper):
    """What point 33 says of a paper of texts, in one expression."""
    def matched(one, other):
        return (one, other) == ("exit", "exit") or (one, other) in paper

    def node(program, label):
        return next((node for node in program.nodes if node[0] == label), None)

    return (len(set(paper)) == len(paper) and matched(first.entry, second.entry) and all(
        node(first, one) and node(second, other) and node(first, one)[1] == node(second, other)[1]
        and all(map(matched, node(first, one)[2], node(second, other)[2])) for one, other in paper))


def behind(program, choices):
    """The target to which choices lead, or None behind the exit."""
    target = program.entry
    for choice in choices:
        node = program.node(target)
        if node is None or choice >= len(node[2]):
            return None
        target = node[2][choice]
    return target


class Judging(unittest.TestCase):
    """Point 33."""

    def assert_taken(self, first, second, *pairs):
        self.assertIs(judges(parse(first), parse(second), pairs), True, (first, second, pairs))

    def assert_refused(self, first, second, *pairs):
        self.assertIs(judges(parse(first), parse(second), pairs), False, (first, second, pairs))

    def test_a_program_and_itself(self):
        self.assert_taken(LOOP, LOOP, ("a", "a"), ("b", "b"))
        self.assert_taken(LOOP, LOOP, ("b", "b"), ("a", "a"))

    def test_a_program_with_a_turn_written_out(self):
        self.assert_taken(LOOP, TWICE, *LOOP_TWICE)
        self.assert_taken(TWICE, LOOP, *turned(LOOP_TWICE))
        self.assert_taken(LOOP, TWICE, *LOOP_TWICE[::-1])

    def test_more_pairs_than_are_needed(self):
        self.assert_taken("a: x = 1; b: x = 1", "a: x = 1; b: x = 1", ("a", "a"), ("b", "b"))
        loop = "entry a; a: x = 1 goto b; b: x = 1 goto a"
        self.assert_taken(loop, loop, ("a", "a"), ("b", "b"), ("a", "b"), ("b", "a"))
        both = [("p", "p"), ("q", "q"), ("r", "r"), ("s", "s"), ("p", "r"), ("q", "s"), ("r", "p"), ("s", "q")]
        self.assert_taken(TWICE, TWICE, *both)
        self.assert_refused(TWICE, TWICE, *both[:7])

    def test_the_entries_at_the_exit(self):
        self.assert_taken("exit", "exit")
        self.assert_refused("exit", "exit", ("exit", "exit"))
        self.assert_refused("exit", "exit", ("a", "a"))
        self.assert_refused("exit", "a: x = 1")
        self.assert_refused("a: x = 1", "exit")
        self.assert_refused("exit", "a: x = 1", ("exit", "a"))
        self.assert_refused("a: x = 1", "exit", ("a", "exit"))

    def test_entries_that_are_not_matched(self):
        self.assert_refused(LOOP, LOOP)
        self.assert_refused("a: x = 1; b: x = 1", "a: x = 1; b: x = 1", ("b", "b"))
        self.assert_refused("a: x = 1", "a: x = 1; b: x = 1", ("a", "b"))

    def test_a_pair_twice(self):
        self.assert_refused(LOOP, LOOP, ("a", "a"), ("b", "b"), ("a", "a"))
        self.assert_refused(LOOP, LOOP, ("a", "a"), ("a", "a"), ("b", "b"))

    def test_labels_that_are_none(self):
        self.assert_refused(LOOP, LOOP, ("a", "a"), ("b", "b"), ("c", "a"))
        self.assert_refused(LOOP, LOOP, ("a", "a"), ("b", "b"), ("a", "c"))
        self.assert_refused(LOOP, LOOP, ("a", "a"), ("b", "b"), ("c", "c"))
        self.assert_refused(LOOP, LOOP, ("a", "a"), ("b", "b"), ("exit", "exit"))
        self.assert_refused(LOOP, LOOP, ("a", "a"), ("b", "b"), ("", ""))
        self.assert_refused(LOOP, TWICE, *turned(LOOP_TWICE))

    def test_unequal_deeds(self):
        self.assert_refused("a: x = 1", "a: x = 2", ("a", "a"))
        self.assert_refused("a: x = 1", "a: y = 1", ("a", "a"))
        self.assert_refused("a: x = 1", "a: print 1", ("a", "a"))
        self.assert_refused("a: print x", "a: if x {; }", ("a", "a"))
        # Equal runs are not enough: the tuples are compared.
        self.assert_refused("a: x = 1 + 1", "a: x = 2", ("a", "a"))
        self.assert_refused("a: x = y + 1", "a: x = 1 + y", ("a", "a"))
        self.assert_taken("a: x = (1) + 1", "a: x = 1 + 1", ("a", "a"))
        self.assert_refused(LOOP, LOOP, ("a", "a"), ("b", "b"), ("a", "b"))

    def test_targets_that_are_not_matched(self):
        self.assert_refused(LOOP, LOOP, ("a", "a"))
        self.assert_refused(LOOP, TWICE, *LOOP_TWICE[:3])
        self.assert_refused("a: x = 1; b: x = 2", "a: x = 1", ("a", "a"))
        self.assert_refused("a: x = 1", "a: x = 1; b: x = 2", ("a", "a"))
        self.assert_refused("a: x = 1; b: x = 2", "a: x = 1", ("a", "a"), ("b", "exit"))

    def test_targets_place_by_place(self):
        first = "entry a; a: if x goto b else exit; b: x = 1 goto exit"
        second = "entry a; a: if x goto exit else b; b: x = 1 goto exit"
        self.assert_taken(first, first, ("a", "a"), ("b", "b"))
        self.assert_refused(first, second, ("a", "a"), ("b", "b"))
        third = "entry a; a: if x goto b else c; b: x = 1 goto exit; c: x = 1 goto exit"
        self.assert_taken(third, third, ("a", "a"), ("b", "b"), ("c", "c"))
        self.assert_refused(third, third, ("a", "a"), ("b", "b"), ("b", "c"))
        self.assert_refused(third, third, ("a", "a"), ("b", "b"), ("c", "b"))
        self.assert_taken(third, third, ("a", "a"), ("b", "b"), ("c", "b"), ("c", "c"))

    def test_values_that_are_no_papers(self):
        program, empty = parse(LOOP), parse("exit")
        pair = ("a", "a")
        for paper in (None, 0, 1, True, "", "ab", "aa", [], {}, set(), [pair, ("b", "b")], {pair: ("b", "b")}, object(),
                      program, b"ab", range(2)):
            self.assertIs(judges(program, program, paper), False, paper)
            self.assertIs(judges(empty, empty, paper), False, paper)

    def test_pairs_that_are_none(self):
        program, empty = parse(LOOP), parse("exit")
        good = (("a", "a"), ("b", "b"))
        for pair in (None, 0, "", "ab", "aa", [], ["a", "a"], (), ("a",), ("a", "a", "a"), ("a", None), (None, "a"),
                     (None, None), (1, 2), ("a", 1), ("a", ["a"]), (["a"], "a"), (["a"], ["a"]), (("a",), ("a",)),
                     {"a": "a"}, {"a"}, (True, False), (b"a", b"a"), object(), ("a", ("a", "a"))):
            self.assertIs(judges(program, program, (*good, pair)), False, pair)
            self.assertIs(judges(program, program, (pair, *good)), False, pair)
            self.assertIs(judges(program, program, (pair,)), False, pair)
            self.assertIs(judges(empty, empty, (pair,)), False, pair)
        self.assertIs(judges(program, program, good), True)

    def test_all_papers_of_small_programs(self):
        texts = (LOOP, "entry a; a: if x goto b else b; b: x = x - 1 goto a", "a: x = x - 1; b: x = x - 1", "exit",
                 "entry a; a: x = x - 1 goto a", "entry a; a: x = x - 1 goto b; b: x = x - 1 goto a")
        taken = 0
        for first, second in product(texts, repeat=2):
            first, second = parse(first), parse(second)
            pairs = list(product(("a", "b", "c", "exit"), repeat=2))
            for many in range(4):
                for paper in combinations(pairs, many):
                    self.assertIs(judges(first, second, paper), takes_by_words(first, second, paper))
                    taken += judges(first, second, paper)
        self.assertGreater(taken, 7)

    def test_the_arguments_stay_as_they_are(self):
        paper = [("a", "a"), ("b", "b")]
        judges(parse(LOOP), parse(LOOP), paper)
        self.assertEqual(paper, [("a", "a"), ("b", "b")])


class SameRuns(unittest.TestCase):
    """Point 34."""

    def assert_same_runs(self, first, second, paper):
        """The runs have the same variables, prints, steps and status, and are at matched places."""
        for inputs in ({}, {"x": 3, "y": -1}, {"x": 1000000}):
            for steps in range(12):
                one, other = run(first, inputs, steps=steps), run(second, inputs, steps=steps)
                self.assertEqual(one[1:], other[1:])
                self.assertTrue((one[0], other[0]) == (None, None) or (one[0], other[0]) in paper)

    def test_a_paper_that_is_taken(self):
        self.assert_same_runs(parse(LOOP), parse(TWICE), LOOP_TWICE)

    def test_papers_that_are_found(self):
        found = 0
        programs = list(some_programs("abc", 60, 81))
        for first, second in product(programs, repeat=2):
            answer, pairs = search(first, second)
            if answer == "paper":
                found += 1
                self.assert_same_runs(first, second, pairs)
        self.assertGreater(found, 60)

    def test_chained_papers_are_taken(self):
        first, second = parse(LOOP), parse(TWICE)
        third, origins = split(second)
        paper = chained(LOOP_TWICE, split_paper(origins))
        self.assertIs(judges(first, third, paper), True)
        self.assertIs(judges(first, first, chained(LOOP_TWICE, turned(LOOP_TWICE))), True)

    def test_many_chained_papers_are_taken(self):
        for program in some_programs("abcdef", 150, 82):
            try:
                second, origins = split(program)
            except TooMany:
                continue
            paper = split_paper(origins)
            back = turned(paper)
            self.assertIs(judges(second, program, back), True)
            self.assertIs(judges(program, program, chained(paper, back)), True)
            self.assertIs(judges(second, second, chained(back, paper)), True)


class Turning(unittest.TestCase):

    def test_each_pair_the_other_way_round_in_the_same_order(self):
        self.assertEqual(turned((("a", "p"), ("b", "q"), ("a", "r"))), (("p", "a"), ("q", "b"), ("r", "a")))
        self.assertEqual(turned((("b", "b"), ("a", "a"))), (("b", "b"), ("a", "a")))
        self.assertEqual(turned(()), ())

    def test_turning_twice(self):
        self.assertEqual(turned(turned(LOOP_TWICE)), LOOP_TWICE)


class Chaining(unittest.TestCase):
    """Point 34, the last sentence."""

    def test_pairs(self):
        self.assertEqual(chained((("a", "b"),), (("b", "c"),)), (("a", "c"),))
        self.assertEqual(chained((("a", "b"), ("p", "q")), (("b", "c"), ("q", "r"))), (("a", "c"), ("p", "r")))

    def test_no_pair_between(self):
        self.assertEqual(chained((("a", "b"),), (("c", "b"),)), ())
        self.assertEqual(chained((("a", "b"),), (("a", "c"),)), ())
        self.assertEqual(chained((("a", "b"),), ()), ())
        self.assertEqual(chained((), (("a", "b"),)), ())
        self.assertEqual(chained((), ()), ())

    def test_several_pairs_between(self):
        self.assertEqual(set(chained((("a", "b"), ("c", "b")), (("b", "d"), ("b", "e")))),
                         {("a", "d"), ("a", "e"), ("c", "d"), ("c", "e")})

    def test_each_pair_once(self):
        pairs = chained((("a", "p"), ("a", "q"), ("b", "p")), (("p", "x"), ("q", "x")))
        self.assertEqual(sorted(pairs), [("a", "x"), ("b", "x")])
        self.assertEqual(len(pairs), 2)

    def test_some_papers(self):
        pairs = list(product("ab", "cd"))
        others = list(product("cd", "ef"))
        for many, more in product(range(5), repeat=2):
            for paper, other in product(combinations(pairs, many), combinations(others, more)):
                found = chained(paper, other)
                self.assertEqual(set(found), {(a, c) for a, b in paper for d, c in other if b == d})
                self.assertEqual(len(found), len(set(found)))

    def test_kinds_of_values(self):
        for paper in (chained(LOOP_TWICE, turned(LOOP_TWICE)), turned(LOOP_TWICE), split_paper((("a", "b"),))):
            self.assertIs(type(paper), tuple)
            for pair in paper:
                self.assertEqual((type(pair), len(pair)), (tuple, 2))


class Searching(unittest.TestCase):
    """Point 35."""

    def assert_paper(self, first, second, *pairs):
        self.assertEqual(search(parse(first), parse(second)), ("paper", pairs), (first, second))

    def assert_differ(self, first, second, *choices):
        self.assertEqual(search(parse(first), parse(second)), ("differ", choices), (first, second))

    def test_a_program_and_itself(self):
        self.assert_paper(LOOP, LOOP, ("a", "a"), ("b", "b"))

    def test_a_program_with_a_turn_written_out(self):
        self.assert_paper(LOOP, TWICE, ("a", "p"), ("b", "q"), ("a", "r"), ("b", "s"))
        self.assert_paper(TWICE, LOOP, ("p", "a"), ("q", "b"), ("r", "a"), ("s", "b"))

    def test_the_entries_at_the_exit(self):
        self.assert_paper("exit", "exit")
        self.assert_differ("exit", "a: x = 1")
        self.assert_differ("a: x = 1", "exit")

    def test_unequal_deeds_at_the_entries(self):
        self.assert_differ("a: x = 1", "a: x = 2")
        self.assert_differ("a: x = 1 + 1", "a: x = 2")
        self.assert_differ("a: if x {; }", "a: print x")

    def test_choices(self):
        first = "entry a; a: if x goto b else c; b: print 1 goto d; c: print 2 goto d; d: print 3 goto exit"
        for wrong, choices in (("b: print 1", (0,)), ("c: print 2", (1,)), ("d: print 3", (0, 0))):
            self.assert_differ(first, first.replace(wrong, wrong[:-1] + "9"), *choices)
        self.assert_differ(first, first.replace("else c", "else b"), 1)
        self.assert_differ(first, first.replace("b: print 1 goto d", "b: print 1 goto exit"), 0, 0)
        self.assert_differ(first, first.replace("c: print 2 goto d", "c: print 2 goto exit"), 1, 0)

    def test_just_one_at_the_exit(self):
        self.assert_differ("a: x = 1", "a: x = 1; b: x = 1", 0)
        self.assert_differ("a: x = 1; b: x = 1", "a: x = 1", 0)
        self.assert_differ("a: if x {; }", "a: if x {; } else {; b: x = 1; }", 1)
        self.assert_differ("entry a; a: if x goto exit else a", "entry a; a: if x goto exit else exit", 1)

    def test_pairs_in_the_order_in_which_they_are_found(self):
        # The pairs behind b stand behind that of c, which was found first.
        text = ("entry a; a: if x goto b else c; b: if y goto d else e; c: if z goto f else g; d: print 1 goto exit; "
                "e: print 2 goto exit; f: print 3 goto exit; g: print 4 goto exit")
        self.assert_paper(text, text, *[(label, label) for label in "abcdefg"])
        self.assert_paper("entry a; a: if x goto b else c; b: print 1 goto d; c: print 2 goto e; d: print 3 goto exit; "
                          "e: print 4 goto exit",
                          "entry p; p: if x goto q else r; q: print 1 goto s; r: print 2 goto t; s: print 3 goto exit; "
                          "t: print 4 goto exit", ("a", "p"), ("b", "q"), ("c", "r"), ("d", "s"), ("e", "t"))

    def test_the_then_targets_first(self):
        text = "entry a; a: if x goto c else b; b: print 1 goto exit; c: print 2 goto exit"
        self.assert_paper(text, text, ("a", "a"), ("c", "c"), ("b", "b"))

    def test_the_first_pair_that_differs(self):
        # Both c and d differ; c is looked at first, although d lies behind the then-target.
        first = "entry a; a: if x goto b else c; b: print 1 goto d; c: print 2 goto exit; d: print 3 goto exit"
        self.assert_differ(first, first.replace("print 2", "print 8").replace("print 3", "print 9"), 1)

    def test_the_choices_by_which_a_pair_was_found_first(self):
        # d is found behind b, and again behind c.
        first = "entry a; a: if x goto b else c; b: print 1 goto d; c: print 2 goto d; d: if y goto a else e; " \
                "e: print 3 goto exit"
        self.assert_differ(first, first.replace("print 3", "print 9"), 0, 0, 1)
        first = "entry a; a: if x goto a else b; b: if y goto a else c; c: print 1 goto exit"
        self.assert_differ(first, first.replace("print 1", "print 2"), 1, 1)

    def test_one_label_in_several_pairs(self):
        self.assert_paper("entry a; a: x = 1 goto a", "entry p; p: x = 1 goto q; q: x = 1 goto p", ("a", "p"),
                          ("a", "q"))
        self.assert_paper("entry a; a: x = 1 goto b; b: x = 1 goto a",
                          "entry p; p: x = 1 goto q; q: x = 1 goto r; r: x = 1 goto p", ("a", "p"), ("b", "q"),
                          ("a", "r"), ("b", "p"), ("a", "q"), ("b", "r"))

    def test_unequal_deeds_with_the_same_runs(self):
        first, second = "a: if 1 {; b: x = 1; }", "a: if 1 {; b: x = 1; } else {; c: x = 2; }"
        self.assertEqual(run(parse(first), {}), run(parse(second), {}))
        self.assert_differ(first, second, 1)

    def test_the_judge_takes_what_is_found(self):
        papers = 0
        programs = list(some_programs("abc", 60, 83)) + [program_of(graph) for graph in some_graphs("abc", 60, 84)]
        for first, second in product(programs, repeat=2):
            answer, found = search(first, second)
            if answer == "paper":
                papers += 1
                self.assertIs(judges(first, second, found), True)
                self.assertIs(judges(second, first, turned(found)), True)
            else:
                # Along the choices but the last one the deeds are equal, and behind all of them unequal.
                self.assertEqual(answer, "differ")
                for many in range(len(found)):
                    one, other = behind(first, found[:many]), behind(second, found[:many])
                    self.assertEqual(first.node(one)[1], second.node(other)[1])
                one, other = behind(first, found), behind(second, found)
                self.assertNotEqual((one, other), ("exit", "exit"))
                if one != "exit" and other != "exit":
                    self.assertNotEqual(first.node(one)[1], second.node(other)[1])
        self.assertGreater(papers, 130)

    def test_no_other_paper_is_needed(self):
        # Where the search finds none, no paper of pairs with equal deeds is taken.
        programs = list(some_programs("abc", 40, 85))
        for first, second in product(programs, repeat=2):
            largest = tuple((one[0], other[0]) for one in first.nodes for other in second.nodes if one[1] == other[1])
            while True:
                kept = tuple((one, other) for one, other in largest if all(
                    targets == ("exit", "exit") or targets in largest
                    for targets in zip(first.node(one)[2], second.node(other)[2])))
                if kept == largest:
                    break
                largest = kept
            self.assertEqual(judges(first, second, largest), search(first, second)[0] == "paper")

    def test_kinds_of_values(self):
        for first, second in ((LOOP, TWICE), (LOOP, "exit"), ("exit", "exit")):
            value = search(parse(first), parse(second))
            self.assertEqual([type(part) for part in value], [str, tuple])
            self.assertIs(type(value), tuple)
        for pair in search(parse(LOOP), parse(TWICE))[1]:
            self.assertIs(type(pair), tuple)

    def test_the_programs_stay_as_they_are(self):
        first, second = parse(LOOP), parse(TWICE)
        before = copy.deepcopy((first.nodes, second.nodes))
        search(first, second)
        judges(first, second, LOOP_TWICE)
        self.assertEqual((first.nodes, second.nodes), before)


class Splitting(unittest.TestCase):
    """Point 36."""

    def test_the_pairs_in_the_order_of_the_states(self):
        self.assertEqual(split_paper((("a", "a"), ("b", "b"), ("b.2", "b"))), (("a", "a"), ("b", "b"), ("b", "b.2")))
        self.assertEqual(split_paper(()), ())
        program, origins = split(parse(CROSSING))
        self.assertEqual(split_paper(origins), (("a", "a"), ("b", "b"), ("c", "c"), ("c", "c.2"), ("b", "b.2")))
        self.assertIs(judges(parse(CROSSING), program, split_paper(origins)), True)

    def test_many_programs(self):
        changed = 0
        for program in some_programs("abcdefg", 300, 86):
            try:
                second, origins = split(program)
            except TooMany:
                continue
            changed += second != program
            self.assertIs(judges(program, second, split_paper(origins)), True)
            answer, pairs = search(program, second)
            self.assertEqual((answer, sorted(pairs)), ("paper", sorted(split_paper(origins))))
            # Each program whose splitting raises no error has a form without jumps with such a paper.
            if len(second) <= Program.MOST_NODES:
                again = normalized(*lowered(structured(second)))
                self.assertIs(judges(program, again, split_paper(origins)), True)
        self.assertGreater(changed, 20)


if __name__ == "__main__":
    unittest.main()

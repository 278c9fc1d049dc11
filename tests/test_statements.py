"""Points 4, 16 to 19 and the part restruct/statements.py of the interface."""

import copy
import unittest

from restruct.errors import SyntaxFault
from restruct.statements import body_text, parse_body

KEYWORDS = "entry goto else if print block loop break continue exit".split()
X, Y = ("variable", "x"), ("variable", "y")
ONE = ("number", 1)
A = ("node", "a", ("set", "x", ONE))
B = ("node", "b", ("print", X))
C = ("node", "c", ("set", "y", ("+", X, ONE)))
A_LINE, B_LINE, C_LINE = "a: x = 1", "b: print x", "c: y = x + 1"
HIGHEST = "a" + " + b" * 19
OPENINGS = ("block b {", "loop r {", "i: if x {")
WRONG_LINES = ("a: x = ", "a x = 1", "x = 1", "A: x = 1", "a: x = 1 goto b", "?", "a:", "a", "1", "else", "{",
               "entry a", "block", "block {", "break", "continue", "a: if x", "a: print", "a.1: x = 1")


def text_of(*lines):
    return "\n".join(lines)


def nested(opening, many):
    """A text in which so many statements are open at once."""
    return text_of(*[opening] * many, *["}"] * many)


class StatementsTest(unittest.TestCase):

    def assert_body(self, text, *statements):
        self.assertEqual(parse_body(text), statements, text)

    def assert_fault(self, line, *lines):
        """The text of these lines has its fault in this line."""
        with self.assertRaises(SyntaxFault, msg=lines) as caught:
            parse_body(text_of(*lines))
        self.assertEqual(caught.exception.line, line, lines)


class Forms(StatementsTest):
    """Points 16 and 17."""

    def test_nodes(self):
        self.assert_body(A_LINE, A)
        self.assert_body(B_LINE, B)
        self.assert_body(C_LINE, C)
        self.assert_body("a: x = y = 1", ("node", "a", ("set", "x", ("=", Y, ONE))))

    def test_one_behind_the_other(self):
        self.assert_body(text_of(A_LINE, B_LINE, C_LINE), A, B, C)

    def test_breaks_continues_and_exits(self):
        self.assert_body("break b", ("break", "b"))
        self.assert_body("continue r", ("continue", "r"))
        self.assert_body("exit", ("exit",))
        self.assert_body("break b.2\ncontinue r.99\nexit\nexit", ("break", "b.2"), ("continue", "r.99"), ("exit",),
                         ("exit",))

    def test_blocks_and_loops(self):
        for kind in ("block", "loop"):
            self.assert_body(text_of(f"{kind} b {{", A_LINE, B_LINE, "}", C_LINE), (kind, "b", (A, B)), C)
            self.assert_body(text_of(f"{kind} b.2 {{", "}"), (kind, "b.2", ()))

    def test_conditionals_without_an_else_branch(self):
        self.assert_body(text_of("i: if x < y {", A_LINE, "}", B_LINE), ("if", "i", ("<", X, Y), (A,), ()), B)
        self.assert_body(text_of("i: if x {", "}"), ("if", "i", X, (), ()))

    def test_conditionals_with_an_else_branch(self):
        self.assert_body(text_of("i: if x {", A_LINE, "} else {", B_LINE, "}", C_LINE), ("if", "i", X, (A,), (B,)), C)
        self.assert_body(text_of("i: if x {", A_LINE, B_LINE, "} else {", B_LINE, C_LINE, "}"),
                         ("if", "i", X, (A, B), (B, C)))
        self.assert_body(text_of("i: if x {", "} else {", B_LINE, "}"), ("if", "i", X, (), (B,)))
        self.assert_body(text_of("i: if x {", A_LINE, "} else {", "}"), ("if", "i", X, (A,), ()))
        self.assert_body(text_of("i: if x {", "} else {", "}"), ("if", "i", X, (), ()))

    def test_statements_within_one_another(self):
        text = text_of("loop r {", "i: if x {", "block b {", A_LINE, "break b", "}", "continue r", "} else {",
                       "j: if y {", "exit", "}", "}", B_LINE, "}", C_LINE)
        block = ("block", "b", (A, ("break", "b")))
        inner = ("if", "j", Y, (("exit",),), ())
        outer = ("if", "i", X, (block, ("continue", "r")), (inner,))
        self.assert_body(text, ("loop", "r", (outer, B)), C)

    def test_conditionals_in_both_branches(self):
        text = text_of("i: if x {", "j: if y {", A_LINE, "} else {", "}", "} else {", "k: if y {", "} else {",
                       B_LINE, "}", "}")
        self.assert_body(text, ("if", "i", X, (("if", "j", Y, (A,), ()),), (("if", "k", Y, (), (B,)),)))

    def test_the_empty_body(self):
        for text in ("", " ", "\n", "\n\n", "   \n \n"):
            self.assert_body(text)

    def test_names_that_are_labels_of_nodes(self):
        self.assert_body(text_of("block a {", A_LINE, "break a", "}"), ("block", "a", (A, ("break", "a"))))
        self.assert_body(text_of("loop b {", B_LINE, "continue b", "}"), ("loop", "b", (B, ("continue", "b"))))

    def test_reading_does_not_ask_what_names_and_labels_mean(self):
        self.assert_body(text_of(A_LINE, A_LINE, "break b", "continue r"), A, A, ("break", "b"), ("continue", "r"))
        self.assert_body(text_of("block b {", "block b {", "continue b", "}", "}"),
                         ("block", "b", (("block", "b", (("continue", "b"),)),)))

    def test_labels_with_a_dot_and_a_number(self):
        self.assert_body("a.2: x = 1", ("node", "a.2", ("set", "x", ONE)))
        self.assert_body("a.99: print x", ("node", "a.99", ("print", X)))
        self.assert_body("i.3: if x {\n}", ("if", "i.3", X, (), ()))

    def test_words_that_only_begin_like_keywords(self):
        self.assert_body("exits: printx = 1", ("node", "exits", ("set", "printx", ONE)))
        self.assert_body("break breaks", ("break", "breaks"))
        self.assert_body("entrya: x = 1", ("node", "entrya", ("set", "x", ONE)))

    def test_kinds_of_values(self):
        text = text_of("loop r {", "i: if x {", A_LINE, "}", "break r", "}", "exit")
        waiting = [parse_body(text), parse_body("")]
        while waiting:
            part = waiting.pop()
            self.assertIs(type(part), tuple)
            waiting.extend(inner for inner in part if not isinstance(inner, (str, int)))


class Lines(StatementsTest):
    """Point 4."""

    def test_spaces_ahead_and_behind(self):
        lines = ["loop r {", "i: if x {", A_LINE, "} else {", "break r", "}", "continue r", "}", "exit"]
        body = parse_body(text_of(*lines))
        for ahead, behind in (("  ", ""), ("", "  "), ("   ", " ")):
            self.assertEqual(parse_body(text_of(*[ahead + line + behind for line in lines])), body)

    def test_spaces_between_signs(self):
        self.assert_body("loop  r{\ni :if(x){\na:x=1\n}else{\nbreak   r\n}\n}",
                         ("loop", "r", (("if", "i", X, (A,), (("break", "r"),)),)))
        self.assert_body("block   b.2{\n  }  \nb:print(x)", ("block", "b.2", ()), B)

    def test_blank_lines(self):
        self.assert_body("\n\na: x = 1\n   \n\nb: print x\n", A, B)
        self.assert_body("i: if x {\n\n} else {\n  \nb: print x\n\n}\n\n", ("if", "i", X, (), (B,)))

    def test_blank_lines_count(self):
        self.assert_fault(4, "", A_LINE, "   ", "?")
        self.assert_fault(3, "", "", "}")
        self.assert_fault(6, "", "block b {", "", "  ", "")

    def test_only_newlines_end_lines(self):
        for separator in ("\r\n", "\r", "\t\n", "\x0b", "\x0c", "\u2028", ";"):
            self.assert_fault(1, f"{A_LINE}{separator}{B_LINE}")
        self.assert_fault(2, A_LINE, "\t")
        self.assert_fault(2, A_LINE, "\r")

    def test_a_newline_at_the_end_makes_a_further_line(self):
        self.assert_body(f"{A_LINE}\n", A)
        self.assert_fault(2, "block b {")
        self.assert_fault(3, "block b {", "")


class Faults(StatementsTest):
    """Points 17 and 18."""

    def test_lines_that_are_wrong_or_have_none_of_the_forms(self):
        for wrong in WRONG_LINES:
            self.assert_fault(1, wrong)
            self.assert_fault(2, A_LINE, wrong)
            self.assert_fault(3, A_LINE, "", wrong, B_LINE)
            for opening in OPENINGS:
                self.assert_fault(2, opening, wrong, "}")
            self.assert_fault(4, "i: if x {", A_LINE, "} else {", wrong, "}")

    def test_each_sign_is_needed(self):
        for line in ("a : x = 1", "a : print x", "a : if x {", "block b {", "loop r {", "break b", "continue r",
                     "a.2 : x = ( y )"):
            signs = line.split()
            for at in range(len(signs)):
                self.assert_fault(2, "", " ".join(signs[:at] + signs[at + 1:]), "}")

    def test_surplus_signs(self):
        for line in ("a: x = 1", "a: print x", "block b {", "loop r {", "a: if x {", "break b", "continue r", "exit",
                     "block b { }", "}", "} else {"):
            for surplus in ("a", "1", "{", "}", ":", "exit", "else", "a.2", ")", "goto a"):
                around = ("i: if x {",) if line.startswith("}") else ()
                self.assert_fault(len(around) + 1, *around, f"{line} {surplus}", "}", "}")
                self.assert_fault(len(around) + 1, *around, f"{surplus} {line}", "}", "}")

    def test_an_opening_bracket_ends_its_line_and_a_closing_one_is_a_line(self):
        self.assert_fault(1, "block b { a: x = 1", "}")
        self.assert_fault(1, "block b {}")
        self.assert_fault(1, "block b", "{", "}")
        self.assert_fault(2, "block b {", "a: x = 1 }")
        self.assert_fault(2, "block b {", "} a: x = 1")
        self.assert_fault(2, "block b {", "} }", "}")
        self.assert_fault(1, "i: if x { a: x = 1 }")
        self.assert_fault(2, "i: if x {", "} else", "{", "}")
        self.assert_fault(3, "i: if x {", "}", "else {", "}")
        self.assert_fault(2, "i: if x {", "} else { a: x = 1", "}")
        self.assert_fault(2, "i: if x {", "} else j: if y {", "}")
        self.assert_fault(2, "i: if x {", "} else { }")

    def test_keywords_as_labels_names_and_variables(self):
        for keyword in KEYWORDS:
            for word in (keyword, f"{keyword}.2"):
                for line in (f"{word}: x = 1", f"{word}: print x", f"{word}: if x {{", f"block {word} {{",
                             f"loop {word} {{", f"break {word}", f"continue {word}", f"a: {word} = 1",
                             f"a: x = {word}", f"a: print {word}", f"a: if {word} {{", f"{word} b"):
                    if line not in ("break b", "continue b"):
                        self.assert_fault(2, A_LINE, line, "}")

    def test_variables_with_a_dot_and_names_that_are_numbers(self):
        for line in ("a: x.2 = 1", "a: x = y.2", "a: print x.2", "a: if x.2 {", "break 1", "block 2 {", "1: x = 1",
                     "a: 1 = x", "block.2 b {", "break.2 b"):
            self.assert_fault(1, line, "}")

    def test_expressions_that_are_too_high(self):
        for start, end in (("a: x = ", ""), ("a: print ", ""), ("a: if ", " {\n}")):
            self.assertEqual(parse_body(f"{start}{HIGHEST}{end}")[0][1], "a")
            self.assert_fault(2, A_LINE, f"{start}{HIGHEST} + b{end}")
        self.assert_fault(1, "a: x = " + "(" * 21 + "1" + ")" * 21)

    def test_a_source_in_the_form_with_jumps(self):
        self.assert_fault(1, "entry a", "a: x = 1 goto exit")
        self.assert_fault(2, "", "entry exit")
        self.assert_fault(1, "a: if x goto b else c")

    def test_closing_when_nothing_is_open(self):
        self.assert_fault(1, "}")
        self.assert_fault(2, A_LINE, "}", B_LINE)
        self.assert_fault(3, "block b {", "}", "}")
        self.assert_fault(4, "i: if x {", "} else {", "}", "}")
        self.assert_fault(5, "loop r {", "block b {", "}", "}", "}", "}")

    def test_an_else_when_nothing_is_open(self):
        self.assert_fault(1, "} else {")
        self.assert_fault(1, "} else {", "}")
        self.assert_fault(2, A_LINE, "} else {", B_LINE, "}")
        self.assert_fault(3, "i: if x {", "}", "} else {", "}")

    def test_an_else_that_does_not_end_a_then_branch(self):
        for kind in ("block", "loop"):
            self.assert_fault(2, f"{kind} b {{", "} else {", "}")
            self.assert_fault(3, f"{kind} b {{", A_LINE, "} else {", B_LINE, "}")
            self.assert_fault(3, "i: if x {", f"{kind} b {{", "} else {", "}", "}")
            self.assert_fault(5, f"{kind} b {{", "i: if x {", "} else {", "}", "} else {", "}")
        self.assert_fault(3, "i: if x {", "} else {", "} else {", "}")
        self.assert_fault(5, "i: if x {", A_LINE, "} else {", B_LINE, "} else {", C_LINE, "}")
        self.assert_fault(6, "i: if x {", "} else {", "j: if y {", "} else {", "}", "} else {", "}")

    def test_an_else_behind_a_statement_that_is_closed(self):
        self.assert_body(text_of("i: if x {", "block b {", "}", "} else {", "}"),
                         ("if", "i", X, (("block", "b", ()),), ()))

    def test_something_is_open_at_the_end(self):
        for opening in OPENINGS:
            self.assert_fault(2, opening)
            self.assert_fault(3, opening, A_LINE)
            self.assert_fault(4, "", opening, "")
            self.assert_fault(5, opening, opening, "}", "")
            self.assert_fault(7, A_LINE, opening, "  ", "", B_LINE, "   ")
        self.assert_fault(3, "i: if x {", "} else {")
        self.assert_fault(4, "i: if x {", "} else {", B_LINE)

    def test_the_first_of_two_faults(self):
        self.assert_fault(1, "?", "!")
        self.assert_fault(1, "}", "?")
        self.assert_fault(1, "?", "}")
        self.assert_fault(2, "block b {", "} else {", "?")
        self.assert_fault(2, "block b {", "?", "} else {")
        self.assert_fault(3, "block b {", A_LINE, "?", B_LINE, "?")
        self.assert_fault(2, "block b {", "?")
        self.assert_fault(3, "i: if x {", "} else {", "break", "} else {")

    def test_so_many_statements_are_open_at_once(self):
        for opening in OPENINGS:
            for many in (1, 59, 60):
                body = parse_body(nested(opening, many))
                self.assertEqual(body_text(body).count("{"), many)
            for many in (61, 62, 100, 2000):
                self.assert_fault(61, *[opening] * many, *["}"] * many)
                self.assert_fault(61, *[opening] * many)
                self.assert_fault(63, "", "", *[opening] * many)

    def test_an_else_opens_nothing(self):
        lines = [*["block b {"] * 59, "i: if x {", "} else {", A_LINE, "}", *["}"] * 59]
        body = parse_body(text_of(*lines))
        for _ in range(59):
            body = body[0][2]
        self.assertEqual(body, (("if", "i", X, (), (A,)),))
        self.assert_fault(62, *lines[:61], "j: if x {", "}", *lines[61:])
        lines = [*["i: if x {", "} else {"] * 60, *["}"] * 60]
        self.assertEqual(body_text(parse_body(text_of(*lines))).count("} else {"), 59)
        self.assert_fault(121, *["i: if x {", "} else {"] * 60, "block b {")

    def test_what_was_closed_is_not_open(self):
        lines = [*["block b {"] * 59, *["loop r {", "}"] * 70, *["}"] * 59]
        self.assertEqual(body_text(parse_body(text_of(*lines))).count("loop r {"), 70)
        self.assert_body(text_of(*["block b {", "}"] * 100), *[("block", "b", ())] * 100)

    def test_other_lines_where_sixty_are_open(self):
        lines = ["loop r {"] * 60
        parse_body(text_of(*lines, A_LINE, "break r", "continue r", "exit", "", *["}"] * 60))
        self.assert_fault(62, *lines, A_LINE, "?")

    def test_many_lines(self):
        self.assertEqual(len(parse_body("\n".join([A_LINE] * 5000))), 5000)
        self.assert_fault(5001, *[A_LINE] * 5000, "?")


class Texts(StatementsTest):
    """Point 19."""

    def assert_normal(self, text, *lines):
        normal = text_of(*lines)
        self.assertEqual(body_text(parse_body(text)), normal)
        self.assertEqual(body_text(parse_body(normal)), normal)
        self.assertEqual(parse_body(normal), parse_body(text))

    def test_the_empty_body(self):
        self.assertEqual(body_text(()), "")
        self.assertEqual(body_text(parse_body(" \n \n")), "")

    def test_statements_of_one_line(self):
        self.assert_normal("a :x=1\n\n  b : print(x)\nc:y=x+1\nbreak  b\n continue r.2\nexit  ",
                           "a: x = 1", "b: print x", "c: y = x + 1", "break b", "continue r.2", "exit")

    def test_expressions_in_normal_text(self):
        self.assert_normal("a:x=((x)-(y-1))*(1)", "a: x = (x - (y - 1)) * 1")
        self.assert_normal("a:x=(y=1)", "a: x = y = 1")
        self.assert_normal("i:if((x<1)=(y)){\n}", "i: if (x < 1) = y {", "}")

    def test_two_spaces_for_each_statement_around(self):
        text = text_of("loop r{", "block b.2{", "i:if x{", A_LINE, "break b.2", "}else{", B_LINE, "j: if y {",
                       "exit", "}", "}", "continue r", "}", C_LINE, "}", "exit")
        self.assert_normal(
            text, "loop r {", "  block b.2 {", "    i: if x {", "      a: x = 1", "      break b.2", "    } else {",
            "      b: print x", "      j: if y {", "        exit", "      }", "    }", "    continue r", "  }",
            "  c: y = x + 1", "}", "exit")

    def test_empty_else_branches_are_left_out(self):
        self.assert_normal("i: if x {\na: x = 1\n} else {\n}", "i: if x {", "  a: x = 1", "}")
        self.assert_normal("i: if x {\n} else {\n}", "i: if x {", "}")

    def test_empty_then_branches_are_kept(self):
        self.assert_normal("i: if x {\n} else {\nb: print x\n}", "i: if x {", "} else {", "  b: print x", "}")
        self.assert_normal("i: if x {\n}", "i: if x {", "}")

    def test_empty_blocks_and_loops(self):
        self.assert_normal("loop r {\nblock b {\n}\n\n}", "loop r {", "  block b {", "  }", "}")

    def test_bodies_that_were_not_read(self):
        body = (A, ("loop", "a", (("if", "i", ("<", X, ONE), (("continue", "a"),), (("break", "a"),)),)), ("exit",))
        lines = ("a: x = 1", "loop a {", "  i: if x < 1 {", "    continue a", "  } else {", "    break a", "  }", "}",
                 "exit")
        self.assertEqual(body_text(body), text_of(*lines))
        self.assertEqual(parse_body(text_of(*lines)), body)

    def test_no_newline_at_the_end(self):
        for text in ("a: x = 1\n", "block b {\n}\n\n", "exit\n \n"):
            normal = body_text(parse_body(text))
            self.assertEqual(normal, normal.strip())

    def test_the_deepest_bodies(self):
        for opening in OPENINGS:
            text = body_text(parse_body(nested(opening, 60)))
            self.assertEqual(text.split("\n")[59], "  " * 59 + opening)
            self.assertEqual(text.split("\n")[60], "  " * 59 + "}")
            self.assertEqual(body_text(parse_body(text)), text)

    def test_bodies_that_are_too_deep_to_be_read(self):
        body = ()
        for _ in range(80):
            body = (("block", "b", body),)
        self.assertEqual(body_text(body).split("\n")[79], "  " * 79 + "block b {")

    def test_the_body_stays_as_it_is(self):
        body = parse_body(text_of("loop r {", "i: if x {", A_LINE, "} else {", "continue r", "}", "}"))
        before = copy.deepcopy(body)
        body_text(body)
        self.assertEqual(body, before)


if __name__ == "__main__":
    unittest.main()

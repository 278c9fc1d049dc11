"""Points 6 to 10 and the part restruct/expressions.py of the interface."""

import unittest
from itertools import product

from restruct.errors import BadLine
from restruct.expressions import evaluate, expression_text, height_of, parse_expression

SIGNS = "=<+-*"
KEYWORDS = "entry goto else if print block loop break continue exit".split()
A, B, C, D = [("variable", name) for name in "abcd"]
ONE = ("number", 1)
OVERFLOW = ("+", ("number", 1000000), ONE)


def chain_to_the_left(sign, height):
    """An expression of this height, and a text without parentheses for it."""
    expression, text = A, "a"
    for _ in range(height - 1):
        expression, text = (sign, expression, B), f"{text} {sign} b"
    return expression, text


def chain_to_the_right(sign, height):
    """An expression of this height, and a text with as few parentheses as possible for it."""
    expression, text = A, "a"
    for at in range(height - 1):
        inner = text if at == 0 else f"({text})"
        expression, text = (sign, B, expression), f"b {sign} {inner}"
    return expression, text


def value_of(text, **variables):
    return evaluate(parse_expression(text), variables)


class ExpressionTest(unittest.TestCase):

    def assert_wrong(self, text):
        with self.assertRaises(BadLine, msg=text):
            parse_expression(text)

    def assert_all_wrong(self, texts):
        for text in texts:
            self.assert_wrong(text)

    def assert_read(self, text, expression):
        self.assertEqual(parse_expression(text), expression, text)

    def assert_normal(self, text, normal=None):
        """Reading and writing the text gives the normal text, the same one without one."""
        self.assertEqual(expression_text(parse_expression(text)), text if normal is None else normal)


class Reading(ExpressionTest):

    def test_the_example_of_the_interface(self):
        self.assert_read("a-(b - 2)", ("-", A, ("-", B, ("number", 2))))

    def test_numbers(self):
        for number in (0, 1, 10, 999999, 1000000):
            self.assert_read(str(number), ("number", number))
            self.assertIs(type(parse_expression(str(number))[1]), int)

    def test_variables(self):
        for name in ("a", "z", "abcdefgh", "iff", "i", "go", "to", "exits", "xexit", "prin", "loops", "breaks"):
            self.assert_read(name, ("variable", name))

    def test_keywords_are_no_variables(self):
        for keyword in KEYWORDS:
            self.assert_all_wrong((keyword, f"{keyword} + a", f"a + {keyword}", f"({keyword})", f"a * {keyword}",
                                   f"a = {keyword}", f"a {keyword}", f"{keyword} a", f"{keyword}.2"))

    def test_words_with_a_dot_are_no_variables(self):
        self.assert_all_wrong(("a.2", "a.99", "a.2 + b", "b + a.2", "(a.2)", "b * a.2", "b < a.2", "a.2 b"))

    def test_each_sign(self):
        for sign in SIGNS:
            self.assert_read(f"a {sign} b", (sign, A, B))
            self.assert_read(f"a{sign}1", (sign, A, ONE))

    def test_spaces_mean_nothing(self):
        for text in ("a+b*(c-1)", " a + b * ( c - 1 ) ", "a+ b *(c   -1)"):
            self.assert_read(text, ("+", A, ("*", B, ("-", C, ONE))))

    def test_products_bind_closer_than_sums_and_sums_than_comparisons(self):
        for sign in "+-":
            self.assert_read(f"a * b {sign} c", (sign, ("*", A, B), C))
            self.assert_read(f"a {sign} b * c", (sign, A, ("*", B, C)))
            self.assert_read(f"a * b {sign} c * d", (sign, ("*", A, B), ("*", C, D)))
            for comparison in "=<":
                self.assert_read(f"a {sign} b {comparison} c", (comparison, (sign, A, B), C))
                self.assert_read(f"a {comparison} b {sign} c", (comparison, A, (sign, B, C)))
        for comparison in "=<":
            self.assert_read(f"a * b {comparison} c * d", (comparison, ("*", A, B), ("*", C, D)))

    def test_sums_and_products_group_to_the_left(self):
        for first in "+-":
            for second in "+-":
                self.assert_read(f"a {first} b {second} c", (second, (first, A, B), C))
        self.assert_read("a * b * c", ("*", ("*", A, B), C))
        self.assert_read("a - b - c - d", ("-", ("-", ("-", A, B), C), D))
        self.assert_read("a * b * c * d", ("*", ("*", ("*", A, B), C), D))
        self.assert_read("a - b * c - d", ("-", ("-", A, ("*", B, C)), D))

    def test_comparisons_do_not_group(self):
        for first in "=<":
            for second in "=<":
                self.assert_wrong(f"a {first} b {second} c")
                self.assert_wrong(f"(a {first} b {second} c)")
                self.assert_wrong(f"a + 1 {first} b * 2 {second} c - 3")
                self.assert_read(f"(a {first} b) {second} c", (second, (first, A, B), C))
                self.assert_read(f"a {second} (b {first} c)", (second, A, (first, B, C)))

    def test_parentheses(self):
        self.assert_read("(a)", A)
        self.assert_read("((1))", ONE)
        self.assert_read("(a + b) * c", ("*", ("+", A, B), C))
        self.assert_read("a * (b + c)", ("*", A, ("+", B, C)))
        self.assert_read("a - (b - c)", ("-", A, ("-", B, C)))
        self.assert_read("(a < b) + (c = d)", ("+", ("<", A, B), ("=", C, D)))
        self.assert_read("a * (b = c) * d", ("*", ("*", A, ("=", B, C)), D))

    def test_blank_lines(self):
        self.assert_all_wrong(("", " ", "     "))

    def test_missing_signs(self):
        for sign in SIGNS:
            self.assert_all_wrong((sign, f"a {sign}", f"{sign} a", f"(a {sign}) b", f"a ({sign} b)",
                                   f"a + ({sign} b)", f"(a {sign})", f"a {sign} {sign} b"))
        self.assert_all_wrong(("a b", "1 2", "a 1", "2a", "a2", "(a) b", "a (b)", "(a)(b)", "2(a)", "a + b c",
                              "-1", "+a"))

    def test_two_signs_beside_each_other(self):
        for first in SIGNS:
            for second in SIGNS:
                self.assert_wrong(f"a {first}{second} b")

    def test_surplus_signs(self):
        for surplus in (":", "{", "}", ")", "a", "1", "a.2", "goto", "=", ":=", "(", "()", "else"):
            self.assert_wrong(f"a + b {surplus}")
            self.assert_wrong(f"{surplus} a + b")
        self.assert_all_wrong(("a : b", "a { b", "a } b", "{a}", "a + b goto c", "x = 1 = 2"))

    def test_unclosed_and_surplus_parentheses(self):
        self.assert_all_wrong(("(", ")", "()", "(a", "a)", "((a)", "(a))", ")a(", "(a + b", "a + b)", "a + (b",
                               "a + b) + c", "(a + (b)", "a + ()", "() + a", "((", "))", "a * (", "(a}", "{a)",
                              "(a b)"))

    def test_wrong_lines_in_the_sense_of_signs(self):
        self.assert_all_wrong(("a + B", "a +\tb", "a +\nb", "a\n", "\na", "a + 007", "a + 1000001", "abcdefghi",
                               "a.1", "a + .", "a_b", "a > b", "a / b", "a % b", "a + b # c", "a + 00"))


class Limits(ExpressionTest):

    def test_heights_to_the_left(self):
        for sign in "+-*":
            expression, text = chain_to_the_left(sign, 20)
            self.assert_read(text, expression)
            self.assert_wrong(chain_to_the_left(sign, 21)[1])

    def test_heights_to_the_right(self):
        for sign in SIGNS:
            expression, text = chain_to_the_right(sign, 20)
            self.assert_read(text, expression)
            self.assert_wrong(chain_to_the_right(sign, 21)[1])

    def test_heights_above_numbers(self):
        for sign in "+-*":
            self.assertEqual(height_of(parse_expression("1" + f" {sign} b" * 19)), 20)
            self.assert_wrong("1" + f" {sign} b" * 20)
            self.assertEqual(height_of(parse_expression("1" + f" {sign} 2" * 19)), 20)
            self.assert_wrong("1" + f" {sign} 2" * 20)
        for sign in SIGNS:
            self.assertEqual(height_of(parse_expression(f"a {sign} (" * 18 + f"a {sign} 1" + ")" * 18)), 20)
            self.assert_wrong(f"a {sign} (" * 19 + f"a {sign} 1" + ")" * 19)

    def test_heights_within_parentheses(self):
        for sign in "+-*":
            for opening, closing in (("(", ")"), ("((", "))"), ("(" * 20, ")" * 20)):
                expression, text = chain_to_the_left(sign, 20)
                self.assert_read(f"{opening}{text}{closing}", expression)
                self.assert_wrong(f"{opening}{chain_to_the_left(sign, 21)[1]}{closing}")

    def test_heights_of_parts(self):
        low, low_text = chain_to_the_left("+", 19)
        _, high_text = chain_to_the_left("+", 20)
        for sign in SIGNS:
            self.assert_read(f"({low_text}) {sign} c", (sign, low, C))
            self.assert_read(f"c {sign} ({low_text})", (sign, C, low))
            self.assert_wrong(f"({high_text}) {sign} c")
            self.assert_wrong(f"c {sign} ({high_text})")
        for comparison in "=<":
            self.assert_read(f"{low_text} {comparison} {low_text}", (comparison, low, low))
            self.assert_wrong(f"{high_text} {comparison} c")
            self.assert_wrong(f"c {comparison} {high_text}")

    def test_the_greater_height_of_both_parts_counts(self):
        _, low = chain_to_the_left("+", 10)
        _, high = chain_to_the_left("+", 19)
        for text in (f"({low}) * ({high})", f"({high}) * ({low})", f"({high}) * ({high})"):
            self.assertEqual(height_of(parse_expression(text)), 20)
            self.assert_wrong(f"({text}) * c")
            self.assert_wrong(f"c + {text}")

    def test_mixed_signs_count_for_the_height(self):
        self.assertEqual(height_of(parse_expression("a * b " + "- c " * 18)), 20)
        self.assert_wrong("a * b " + "- c " * 19)
        self.assertEqual(height_of(parse_expression("a * b " + "- c " * 17 + "= d")), 20)
        self.assert_wrong("a * b " + "- c " * 18 + "= d")

    def test_parentheses_do_not_count_for_the_height(self):
        _, text = chain_to_the_left("+", 19)
        self.assertEqual(height_of(parse_expression("((((((" + text + ")))))) + (((c)))")), 20)
        text = "a"
        for _ in range(19):
            text = f"({text}) + b"
        self.assertEqual(height_of(parse_expression(text)), 20)

    def test_open_parentheses(self):
        self.assert_read("(" * 20 + "a" + ")" * 20, A)
        self.assert_wrong("(" * 21 + "a" + ")" * 21)
        self.assert_wrong("(" * 22 + "a" + ")" * 22)

    def test_open_parentheses_that_are_spread(self):
        self.assert_read("(" * 10 + "a + " + "(" * 10 + "b" + ")" * 20, ("+", A, B))
        self.assert_wrong("(" * 10 + "a + " + "(" * 11 + "b" + ")" * 21)
        self.assert_read("a * " + "(" * 20 + "b" + ")" * 20, ("*", A, B))
        self.assert_wrong("a * " + "(" * 21 + "b" + ")" * 21)
        self.assert_wrong("a < b + c * " + "(" * 21 + "d" + ")" * 21)

    def test_closed_parentheses_are_not_open(self):
        twenty = "(" * 20 + "a" + ")" * 20
        for sign in SIGNS:
            self.assert_read(f"{twenty} {sign} {twenty}", (sign, A, A))
            self.assert_wrong(f"{twenty} {sign} ({twenty})")
            self.assert_wrong(f"({twenty}) {sign} {twenty}")
        nineteen = "(" * 19 + "a" + ")" * 19
        self.assert_read(f"({nineteen} + {nineteen})", ("+", A, A))
        self.assert_wrong(f"({nineteen} + {twenty})")

    def test_lines_far_beyond_the_limits(self):
        self.assert_all_wrong(("(" * 5000, "(" * 5000 + "a" + ")" * 5000, "a" + " + a" * 5000, "a" + " * a" * 5000,
                               "a + (" * 3000 + "a" + ")" * 3000, "9" * 5000, "a + " * 5000))

    def test_a_wide_expression_that_is_not_high(self):
        text = "a"
        for _ in range(10):
            text = f"({text}) * ({text})"
        expression = parse_expression(text)
        self.assertEqual(height_of(expression), 11)
        self.assertEqual(parse_expression(expression_text(expression)), expression)


class Heights(ExpressionTest):

    def test_numbers_and_variables(self):
        for expression in (A, ONE, ("number", 1000000), ("variable", "abcdefgh")):
            self.assertEqual(height_of(expression), 1)

    def test_each_sign(self):
        for sign in SIGNS:
            self.assertEqual(height_of((sign, A, ONE)), 2)
            self.assertEqual(height_of((sign, (sign, A, ONE), B)), 3)
            self.assertEqual(height_of((sign, B, (sign, A, ONE))), 3)
            self.assertEqual(height_of((sign, (sign, A, ONE), (sign, A, ONE))), 3)

    def test_the_greater_one_of_both_heights(self):
        left, right = chain_to_the_left("-", 7)[0], chain_to_the_right("*", 4)[0]
        self.assertEqual(height_of(("=", left, right)), 8)
        self.assertEqual(height_of(("=", right, left)), 8)

    def test_chains(self):
        for height in range(1, 26):
            self.assertEqual(height_of(chain_to_the_left("+", height)[0]), height)
            self.assertEqual(height_of(chain_to_the_right("<", height)[0]), height)


class Writing(ExpressionTest):

    def test_the_example_of_the_interface(self):
        self.assertEqual(expression_text(("*", ("+", A, ONE), ("number", 2))), "(a + 1) * 2")

    def test_the_examples_of_the_point(self):
        self.assertEqual(expression_text(("-", A, ("-", B, C))), "a - (b - c)")
        self.assertEqual(expression_text(("-", ("-", A, B), C)), "a - b - c")
        self.assertEqual(expression_text(("*", ("+", A, B), C)), "(a + b) * c")
        self.assertEqual(expression_text(("=", ("<", A, B), ("<", C, D))), "(a < b) = (c < d)")
        self.assertEqual(expression_text(("*", A, ("*", B, C))), "a * (b * c)")

    def test_numbers_and_variables(self):
        for text in ("0", "7", "1000000", "a", "abcdefgh"):
            self.assert_normal(text)
            self.assert_normal(f"(({text}))", text)

    def test_single_spaces(self):
        for sign in SIGNS:
            self.assertEqual(expression_text((sign, A, ONE)), f"a {sign} 1")
            self.assert_normal(f" a{sign}1", f"a {sign} 1")
            self.assert_normal(f"(a   {sign}   1)", f"a {sign} 1")

    def test_parentheses_of_an_inner_sign_on_the_left(self):
        needed = {"=": "=<", "<": "=<", "+": "=<", "-": "=<", "*": "=<+-"}
        for outer in SIGNS:
            for inner in SIGNS:
                text = f"(a {inner} b) {outer} c" if inner in needed[outer] else f"a {inner} b {outer} c"
                self.assertEqual(expression_text((outer, (inner, A, B), C)), text)

    def test_parentheses_of_an_inner_sign_on_the_right(self):
        needed = {"=": "=<", "<": "=<", "+": "=<+-", "-": "=<+-", "*": "=<+-*"}
        for outer in SIGNS:
            for inner in SIGNS:
                text = f"a {outer} (b {inner} c)" if inner in needed[outer] else f"a {outer} b {inner} c"
                self.assertEqual(expression_text((outer, A, (inner, B, C))), text)

    def test_reading_gives_the_same_expression_for_every_pair_of_signs(self):
        for outer in SIGNS:
            for inner in SIGNS:
                for expression in ((outer, (inner, A, B), C), (outer, A, (inner, B, C)),
                                   (outer, (inner, A, B), (inner, C, ONE))):
                    self.assertEqual(parse_expression(expression_text(expression)), expression)

    def test_reading_gives_the_same_expression_for_three_signs(self):
        for one, two, three in product(SIGNS, repeat=3):
            for expression in ((one, (two, (three, A, B), C), D), (one, (two, A, (three, B, C)), D),
                               (one, A, (two, (three, B, C), D)), (one, A, (two, B, (three, C, D))),
                               (one, (two, A, B), (three, C, D))):
                self.assertEqual(parse_expression(expression_text(expression)), expression)

    def test_parentheses_that_are_not_needed_are_left_out(self):
        self.assert_normal("(a * b) + (c * d)", "a * b + c * d")
        self.assert_normal("((a - b) - c) < (d + 1)", "a - b - c < d + 1")
        self.assert_normal("a + (b * c)", "a + b * c")
        self.assert_normal("(a + b) = (c * d)", "a + b = c * d")
        self.assert_normal("((a) * (b)) * (c)", "a * b * c")

    def test_normal_texts_stay(self):
        for text in ("a + (b + c)", "a - (b + c) - d", "(a = b) + c", "a * (b = c)", "(a + b) * (c - d)",
                     "a + b * c - d", "a < (b = c) * d", "((a + b) * c - d) * 1", "a - b * (c - d)"):
            self.assert_normal(text)

    def test_the_greatest_height(self):
        for sign in SIGNS:
            expression = chain_to_the_right(sign, 20)[0]
            self.assertEqual(parse_expression(expression_text(expression)), expression)
            self.assertEqual(expression_text(expression), chain_to_the_right(sign, 20)[1])
        for sign in "+-*":
            self.assertEqual(expression_text(chain_to_the_left(sign, 20)[0]), chain_to_the_left(sign, 20)[1])


class Values(ExpressionTest):

    def test_the_examples_of_the_interface(self):
        self.assertIsNone(evaluate(parse_expression("n * n + 1"), {"n": 1000}))
        self.assertEqual(evaluate(parse_expression("x < 1"), {}), 1)

    def test_numbers(self):
        for number in (0, 1, 1000000):
            self.assertEqual(value_of(str(number)), number)

    def test_variables(self):
        for value in (0, 1, -1, 1000000, -1000000):
            self.assertEqual(value_of("x", x=value, y=5), value)

    def test_a_variable_without_a_value_has_zero(self):
        self.assertEqual(value_of("x"), 0)
        self.assertEqual(value_of("x", y=3), 0)
        self.assertEqual(value_of("x + 4"), 4)
        self.assertEqual(value_of("4 - x"), 4)
        self.assertEqual(value_of("x * 4"), 0)
        self.assertEqual(value_of("x = 0"), 1)
        self.assertEqual(value_of("x + y", y=3), 3)

    def test_arithmetic(self):
        for left, right in ((7, 3), (3, 7), (-7, 3), (7, -3), (-7, -3), (0, 5), (5, 0), (0, 0)):
            self.assertEqual(value_of("a + b", a=left, b=right), left + right)
            self.assertEqual(value_of("a - b", a=left, b=right), left - right)
            self.assertEqual(value_of("a * b", a=left, b=right), left * right)

    def test_grouping(self):
        self.assertEqual(value_of("10 - 3 - 2"), 5)
        self.assertEqual(value_of("10 - (3 - 2)"), 9)
        self.assertEqual(value_of("2 + 3 * 4"), 14)
        self.assertEqual(value_of("(2 + 3) * 4"), 20)

    def test_comparisons(self):
        for left in (-1000000, -2, -1, 0, 1, 2, 1000000):
            for right in (-1000000, -2, -1, 0, 1, 2, 1000000):
                self.assertEqual(value_of("a = b", a=left, b=right), 1 if left == right else 0)
                self.assertEqual(value_of("a < b", a=left, b=right), 1 if left < right else 0)

    def test_comparisons_are_computed_with(self):
        self.assertEqual(value_of("(1 < 2) + (3 = 3)"), 2)
        self.assertEqual(value_of("(2 < 1) = (3 = 4)"), 1)
        self.assertEqual(value_of("0 - (1 = 1)"), -1)
        self.assertEqual(value_of("a + 1 < b * 2", a=3, b=3), 1)

    def test_values_are_integers(self):
        for text in ("1 < 2", "2 < 1", "1 = 1", "1 = 2", "x", "7", "2 + 3", "(1 < 2) * (2 < 3)"):
            self.assertIs(type(value_of(text)), int, text)

    def test_the_dict_stays_as_it_is(self):
        for variables in ({}, {"a": 1}, {"a": 1000000, "b": -2}):
            before = list(variables.items())
            for text in ("a + b * c", "x", "a = d", "a * a * a", "a - z < b"):
                evaluate(parse_expression(text), variables)
                self.assertEqual(list(variables.items()), before)


class Overflows(ExpressionTest):

    def assert_overflow(self, text, **variables):
        self.assertIsNone(value_of(text, **variables), text)

    def test_additions(self):
        self.assertEqual(value_of("999999 + 1"), 1000000)
        self.assertEqual(value_of("1000000 + 0"), 1000000)
        self.assert_overflow("1000000 + 1")
        self.assert_overflow("1 + 1000000")
        self.assertEqual(value_of("a + b", a=-999999, b=-1), -1000000)
        self.assert_overflow("a + b", a=-1000000, b=-1)
        self.assert_overflow("a + a", a=1000000)
        self.assert_overflow("a + a", a=-1000000)

    def test_subtractions(self):
        self.assertEqual(value_of("0 - 1000000"), -1000000)
        self.assertEqual(value_of("a - 1", a=-999999), -1000000)
        self.assert_overflow("a - 1", a=-1000000)
        self.assert_overflow("0 - 1000000 - 1")
        self.assertEqual(value_of("999999 - a", a=-1), 1000000)
        self.assert_overflow("1000000 - a", a=-1)
        self.assert_overflow("1000000 - a", a=-1000000)
        self.assert_overflow("a - 1000000", a=-1000000)

    def test_multiplications(self):
        self.assertEqual(value_of("1000 * 1000"), 1000000)
        self.assertEqual(value_of("a * 1000", a=-1000), -1000000)
        self.assertEqual(value_of("a * b", a=-1000, b=-1000), 1000000)
        self.assertEqual(101 * 9901, 1000001)
        self.assert_overflow("101 * 9901")
        self.assert_overflow("a * 9901", a=-101)
        self.assert_overflow("101 * a", a=-9901)
        self.assert_overflow("a * b", a=-101, b=-9901)
        self.assert_overflow("1000000 * 1000000")

    def test_a_part_that_overflows_makes_the_whole_overflow(self):
        for sign in SIGNS:
            for other in (A, ("number", 0), ONE, ("number", 1000000), OVERFLOW):
                self.assertIsNone(evaluate((sign, OVERFLOW, other), {}))
                self.assertIsNone(evaluate((sign, other, OVERFLOW), {}))

    def test_results_that_come_back_into_the_range(self):
        self.assert_overflow("1000000 + 1 - 1")
        self.assert_overflow("0 - 1 + (1000000 + 1)")
        self.assert_overflow("1000000 * 2 - 1000000 * 2")
        self.assertEqual(value_of("1000000 - 1 + 1"), 1000000)

    def test_below_a_comparison(self):
        for text in ("1000000 + 1 < 0", "0 < 1000000 + 1", "1000000 + 1 = 1", "1 = 1000000 + 1",
                     "1000000 + 1 = 1000000 + 1", "(1000000 + 1 < 0) + 1", "1 * (0 < 1000000 + 1)"):
            self.assert_overflow(text)

    def test_in_a_product_with_zero(self):
        self.assert_overflow("0 * (1000000 + 1)")
        self.assert_overflow("(1000000 + 1) * 0")
        self.assert_overflow("x * (1000000 + 1)")
        self.assert_overflow("0 * (1000 * 1000 * 2)")

    def test_deep_parts(self):
        self.assert_overflow("1 + (2 * (3 - (4 < 5 - (6 + (1000000 + 1)))))")
        self.assert_overflow("((((1000000 + 1) < 0) = 0) * 0) + 1")

    def test_comparisons_themselves_do_not_overflow(self):
        self.assertEqual(value_of("1000000 = 1000000"), 1)
        self.assertEqual(value_of("a < 1000000", a=-1000000), 1)

    def test_repeated_products(self):
        self.assertEqual(value_of("2 * 2 * 2 * 2 * 2 * 2 * 2 * 2 * 2 * 2 * 2 * 2 * 2 * 2 * 2 * 2 * 2 * 2 * 2"), 2 ** 19)
        self.assert_overflow("4 * 4 * 4 * 4 * 4 * 4 * 4 * 4 * 4 * 4")


if __name__ == "__main__":
    unittest.main()

"""The text: tokens, terms and their levels, items, and when a text is well made."""

import unittest

from asking import ask, nested
from termpairs.rules import told


class Check(unittest.TestCase):
    def told_of(self, text, answer):
        self.assertEqual(ask(text), answer)

    def refused(self, *texts):
        for text in texts:
            with self.subTest(text=text):
                self.assertEqual(ask(text), -3)


class Tokens(Check):
    def test_empty_text(self):
        self.assertEqual(told(0, 0, []), [0])

    def test_nothing_told(self):
        for text in (" ", "\n\t", "# all of it", "#\n#", "order;", "order a b;", "order ; order a;"):
            self.assertEqual(told(10, 10, [ord(sign) for sign in text]), [0])

    def test_blanks_tabs_and_newlines(self):
        self.told_of("order\ta\nf;term\n\tf ( a , X )\n;", "term f(a,X0)\n")
        self.told_of("order a f;term f(a,X);", "term f(a,X0)\n")

    def test_names_are_parted_by_blanks_alone(self):
        self.told_of("order ab;term ab;", "term ab\n")
        self.refused("order ab;term a b;", "order ab;term a\nb;")

    def test_remarks(self):
        self.told_of("order a#b;\n;term#\na#;;(\n;# term a", "term a\n")
        self.told_of("# ; # -- _\norder a; term a;", "term a\n")

    def test_a_remark_parts_names(self):
        self.refused("order ab; term a#\nb;")

    def test_any_byte_in_a_remark(self):
        numbers = [35] + [number for number in range(256) if number != 10] + [10]
        rest = [ord(sign) for sign in "order a;term a;"]
        self.assertEqual(told(0, 10, numbers + rest), told(0, 10, rest))

    def test_only_a_newline_ends_a_remark(self):
        self.told_of("order a; # \r term a;", "")

    def test_names(self):
        self.told_of("order a_Z9 0 9x a__; term a_Z9; term 0; term 9x; term a__;",
                     "term a_Z9\nterm 0\nterm 9x\nterm a__\n")
        self.told_of("order f; term f(A_,Bb,C1,A_,A);", "term f(X0,X1,X2,X0,X3)\n")

    def test_no_tokens(self):
        allowed = set(map(ord, "ABCDEFGHIJKLMNOPQRSTUVWXYZabcdefghijklmnopqrstuvwxyz0123456789_ \t\n#"))
        start = [ord(sign) for sign in "order a;"]
        for number in range(256):
            if number not in allowed:
                with self.subTest(number=number):
                    self.assertEqual(told(0, 10, start + [number]), [-3])

    def test_names_that_begin_with_a_stroke(self):
        self.refused("order _;", "order _a;", "order a; term _A;", "order a; rule a->_;")

    def test_broken_arrows(self):
        self.refused("order a; rule a - > a;", "order a; rule a-a;", "order a; rule a>a;", "order a; rule a->->a;",
                     "order a; rule a-->a;", "order a; rule a->>a;")

    def test_arrow_without_blanks(self):
        self.told_of("order a b;rule a->b;", "rule 1 above\n")


class Terms(Check):
    def test_broken_terms(self):
        for term in ("", "f()", "f(a", "fa)", "f(a))", "f(,a)", "f(a,)", "f(a,,a)", "f(a a)", "(a)", "f((a))", "X(a)",
                     "f a", "a,a", "f(a)(a)", "a;a", "f(a;)", "->", ",", "f(->)", "f(a)a", "f(a)X", ")", "f(a,"):
            self.refused("order f a; term " + term + ";", "order f a; rule f(X) -> " + term + ";",
                         "order f a; rule " + term + " -> a;")

    def test_level_49(self):
        self.told_of("order f a; term " + nested("f", 49, "a") + ";", "term " + nested("f", 49, "a") + "\n")
        self.told_of("order f; term " + nested("f", 49, "A") + ";", "term " + nested("f", 49, "X0") + "\n")
        # Within its own left, at each level from 1 to 48, the rule meets itself.
        levels = [nested("f", level, "X0") for level in range(1, 49)]
        self.told_of("order f; rule " + nested("f", 49, "A") + " -> A;",
                     "rule 1 above\n" + "".join(f"pair 1 1 {term} {term} joined {term}\n" for term in levels))

    def test_level_50(self):
        self.refused("order f a; term " + nested("f", 50, "a") + ";", "order f; term " + nested("f", 50, "A") + ";",
                     "order f; rule " + nested("f", 50, "A") + " -> A;",
                     "order f; rule f(A) -> " + nested("f", 50, "A") + ";",
                     "order f a; term " + nested("f", 2000, "a") + ";", "order f; term " + "f(" * 4000)

    def test_level_50_on_the_right_of_others(self):
        deep = nested("f", 48, "a")
        self.told_of("order f g a; term g(a," + deep + ");", "term g(a," + deep + ")\n")
        self.refused("order f g a; term g(a,f(" + deep + "));", "order f g a; term g(f(" + deep + "),a);")


class Items(Check):
    def test_words_as_functions(self):
        self.told_of("order order rule term; rule rule -> term; rule order(term) -> rule; term order(rule);",
                     "rule 1 above\nrule 2 above\nterm term\n")
        self.told_of("term term;order term;", "term term\n")

    def test_several_orders_go_on(self):
        self.told_of("order a; rule a -> b; order; rule b -> c; order b c; rule a -> c; term a;",
                     "rule 1 above\nrule 2 above\nrule 3 above\n"
                     "pair 1 3 b c joined c\npair 3 1 c b joined c\nterm c\n")
        self.told_of("order b; order a; rule a -> b;", "rule 1 open\n")

    def test_kinds_of_lines_come_in_their_order(self):
        self.told_of("term a; order a b; rule a -> b; term b; rule a -> a;",
                     "rule 1 above\nrule 2 open\npair 1 2 b a joined b\npair 2 1 a b joined b\nterm b\nterm b\n")

    def test_no_items(self):
        self.refused(";", "a;", "Order a;", "orders a;", "ruleX;", "rule;", "term;", "order a;;", "order a; a -> a;",
                     "X;", "( ;", "-> ;", "1;", "order a; term a")

    def test_texts_that_break_off(self):
        whole = "order f a; rule f(X) -> X; term f(a);"
        self.assertEqual(ask(whole), "rule 1 above\nterm a\n")
        ends = ("order f a;", "order f a; ", "order f a; rule f(X) -> X;", "order f a; rule f(X) -> X; ")
        for length in range(1, len(whole)):
            if whole[:length] not in ends:
                self.refused(whole[:length])

    def test_broken_orders(self):
        self.refused("order a, b;", "order A;", "order a A;", "order (a);", "order f(a);", "order a -> b;", "order a")

    def test_broken_rules(self):
        self.refused("order a; rule a;", "order a; rule a ->;", "order a; rule -> a;", "order a; rule a -> a -> a;",
                     "order a; rule a, a;", "order a; rule a -> a a;", "order a; rule a -> a")


class WellMade(Check):
    def test_a_function_takes_as_many_terms_everywhere(self):
        start = "order f g a b; "
        self.refused(start + "term g(f,f(a));", start + "term f(a); term f;", start + "rule f(X) -> f;",
                     start + "rule f(X) -> X; term f(a,a);", start + "rule g(a(a)) -> a;", start + "term f(f(a,a));",
                     start + "rule f(X,Y) -> X; rule f(X) -> X;")
        self.told_of(start + "term f(a); term f(b);", "term f(a)\nterm f(b)\n")

    def test_a_function_stands_in_the_order_once(self):
        self.refused("order a a;", "order a; order a;", "order a b c a;", "order a; term a; order a;")

    def test_a_function_that_is_not_in_the_order(self):
        self.refused("term a;", "order a; term b;", "order f; term f(a);", "order f; rule f(X) -> a;",
                     "order a; rule f(X) -> a;", "order; term X(a);")

    def test_the_order_may_come_last(self):
        self.told_of("term f(a); order a f;", "term f(a)\n")

    def test_a_function_in_the_order_alone(self):
        self.told_of("order a b c; term b;", "term b\n")

    def test_no_left_is_a_variable(self):
        self.refused("order a; rule X -> a;", "rule X -> X;", "order f; rule Y -> f(Y);")

    def test_no_variable_stands_on_the_right_alone(self):
        self.refused("order a; rule a -> X;", "order f; rule f(X) -> Y;", "order f g; rule f(X) -> g(X,X,Y);",
                     "order f; rule f(X) -> X; rule f(Y) -> X;")
        self.told_of("order f; rule f(Y,X) -> X;", "rule 1 above\n")

    def test_64_rules(self):
        text = "order a b; " + "rule a -> b;" * 64
        lines = ["rule %d above\n" % number for number in range(1, 65)]
        for first in range(1, 65):
            lines += ["pair %d %d b b joined b\n" % (first, second) for second in range(1, 65) if second != first]
        self.told_of(text, "".join(lines))

    def test_65_rules(self):
        self.refused("order a b; " + "rule a -> b;" * 65)

    def test_more_than_64_terms(self):
        self.told_of("order a; " + "term a;" * 1000, "term a\n" * 1000)

    def test_variables_are_a_rules_or_a_terms_own(self):
        self.told_of("order f g; rule f(X) -> X; term g(Y,X); term X;", "rule 1 above\nterm g(X0,X1)\nterm X0\n")


if __name__ == "__main__":
    unittest.main()

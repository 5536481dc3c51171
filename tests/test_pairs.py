"""What it means: pairs, and what is told of them."""

import unittest

from asking import ask_lines


class Check(unittest.TestCase):
    def pairs_of(self, text, *pairs, steps=1000):
        lines = [line for line in ask_lines(text, steps=steps) if line.startswith("pair ")]
        self.assertEqual(lines, ["pair " + pair for pair in pairs])


class Kinds(Check):
    def test_joined(self):
        self.pairs_of("order a b c d; rule a -> b; rule a -> c; rule b -> d; rule c -> d;",
                      "1 2 b c joined d", "2 1 c b joined d")

    def test_apart(self):
        self.pairs_of("order a b c; rule a -> b; rule a -> c;", "1 2 b c apart b c", "2 1 c b apart c b")
        self.pairs_of("order a b c d; rule a -> b; rule a -> c; rule b -> d;", "1 2 b c apart d c", "2 1 c b apart c d")

    def test_unknown(self):
        self.pairs_of("order a b c; rule a -> b; rule a -> c; rule b -> b;", "1 2 b c unknown", "2 1 c b unknown")
        self.pairs_of("order a b c; rule a -> b; rule a -> c; rule b -> b; rule c -> c;",
                      "1 2 b c unknown", "2 1 c b unknown")

    def test_the_same_on_both_sides_is_unknown_still(self):
        self.pairs_of("order a; rule a -> a; rule a -> a;", "1 2 a a unknown", "2 1 a a unknown")

    def test_steps_are_each_terms_own(self):
        text = "order a b c d e; rule a -> b; rule a -> c; rule b -> d; rule c -> e; rule d -> e;"
        self.pairs_of(text, "1 2 b c joined e", "2 1 c b joined e", steps=2)
        self.pairs_of(text, "1 2 b c unknown", "2 1 c b unknown", steps=1)

    def test_steps_0(self):
        self.pairs_of("order a b c d; rule a -> b; rule a -> c; rule a -> b;",
                      "1 2 b c apart b c", "1 3 b b joined b", "2 1 c b apart c b", "2 3 c b apart c b",
                      "3 1 b b joined b", "3 2 b c apart b c", steps=0)

    def test_a_pair_on_whose_way_a_term_is_too_great(self):
        self.pairs_of("order a b c f; rule a -> b; rule a -> f(c); rule f(X) -> g(f(X),f(X)); order g;",
                      "1 2 b f(c) unknown", "2 1 f(c) b unknown", steps=10000)


class Places(Check):
    def test_no_pair(self):
        self.pairs_of("order f g a b; rule f(a) -> b; rule f(b) -> a; rule g(X) -> X;")
        self.pairs_of("order f; rule f(X) -> X;")

    def test_a_rule_with_itself_within(self):
        self.pairs_of("order f a b; rule f(f(X)) -> a;", "1 1 a f(a) apart a f(a)")
        self.pairs_of("order f g; rule f(f(X)) -> g(X);", "1 1 g(f(X0)) f(g(X0)) apart g(f(X0)) f(g(X0))")

    def test_the_same_rule_twice_meets_at_the_top(self):
        self.pairs_of("order f; rule f(X) -> X; rule f(Y) -> Y;", "1 2 X0 X0 joined X0", "2 1 X0 X0 joined X0")

    def test_within_another(self):
        self.pairs_of("order f g a b c; rule f(g(X,Y)) -> X; rule g(a,Z) -> Z;", "1 2 a f(X0) apart a f(X0)")

    def test_functions_of_none_are_places(self):
        self.pairs_of("order f a b c; rule f(a,X,a) -> b; rule a -> c;",
                      "1 2 b f(c,X0,a) apart b f(c,X0,c)", "1 2 b f(a,X0,c) apart b f(c,X0,c)")

    def test_variables_are_no_places(self):
        self.pairs_of("order f a b; rule f(X,Y) -> X; rule a -> b;")

    def test_only_the_left_has_places(self):
        self.pairs_of("order f a b; rule f(b) -> a; rule a -> b;")

    def test_a_place_then_those_within_it_left_before_right(self):
        self.pairs_of("order f g a b c;"
                      "rule f(g(a),g(b)) -> c; rule b -> b1; rule a -> a1; rule g(X) -> X; rule f(X,Y) -> Y;"
                      "order a1 b1;",
                      "1 5 c g(b) apart c b1",
                      "1 4 c f(a,g(b)) apart c b1",
                      "1 3 c f(g(a1),g(b)) apart c b1",
                      "1 4 c f(g(a),b) apart c b1",
                      "1 2 c f(g(a),g(b1)) apart c b1",
                      "5 1 g(b) c apart b1 c")

    def test_first_rules_then_places_then_second_rules(self):
        self.pairs_of("order f a b c d; rule f(a,a) -> b; rule a -> c; rule a -> d; rule f(X,X) -> c;",
                      "1 4 b c apart b c",
                      "1 2 b f(c,a) apart b c", "1 3 b f(d,a) apart b f(d,c)",
                      "1 2 b f(a,c) apart b c", "1 3 b f(a,d) apart b f(c,d)",
                      "2 3 c d apart c d", "3 2 d c apart d c",
                      "4 1 c b apart c b")


class MadeOne(Check):
    def test_variables_of_two_rules_are_their_own(self):
        self.pairs_of("order f a b; rule f(X,a) -> X; rule f(b,X) -> X;", "1 2 b a apart b a", "2 1 a b apart a b")

    def test_as_general_as_can_be(self):
        self.pairs_of("order f g h; rule f(X,g(Y)) -> h(X,Y); rule f(g(X),Y) -> h(Y,X);",
                      "1 2 h(g(X0),X1) h(g(X1),X0) apart h(g(X0),X1) h(g(X1),X0)",
                      "2 1 h(g(X0),X1) h(g(X1),X0) apart h(g(X0),X1) h(g(X1),X0)")

    def test_the_same_variable_twice(self):
        self.pairs_of("order f g a b; rule f(X,X) -> g(X); rule f(a,Y) -> Y;",
                      "1 2 g(a) a apart g(a) a", "2 1 a g(a) apart a g(a)")
        self.pairs_of("order f g a b; rule f(X,X) -> a; rule f(a,b) -> b;")
        self.pairs_of("order f g a; rule f(X,Y,X,Y) -> g(X,Y); rule f(A,A,g(B,B),C) -> a;",
                      "1 2 g(g(X0,X0),g(X0,X0)) a apart g(g(X0,X0),g(X0,X0)) a",
                      "2 1 a g(g(X0,X0),g(X0,X0)) apart a g(g(X0,X0),g(X0,X0))")

    def test_functions_that_differ(self):
        self.pairs_of("order f g h a; rule f(g(X),X) -> a; rule f(Y,h(Z)) -> a; rule f(h(X),g(Y)) -> a;",
                      "1 2 a a joined a", "2 1 a a joined a")

    def test_no_term_stands_within_itself(self):
        self.pairs_of("order f g a; rule f(X,X) -> a; rule f(Y,g(Y)) -> a;")
        self.pairs_of("order f g a; rule f(X,g(X)) -> a; rule f(g(Y),Y) -> a;")
        self.pairs_of("order f g a; rule f(X,Y,X,Y) -> a; rule f(A,B,g(B),g(A)) -> a;")
        self.pairs_of("order f g a; rule f(X,Y,X,Y) -> a; rule f(A,B,g(B),A) -> a;")

    def test_a_variable_with_itself(self):
        self.pairs_of("order f g a; rule f(X,Y,X,Y) -> g(X,Y); rule f(A,B,B,A) -> a;",
                      "1 2 g(X0,X0) a apart g(X0,X0) a", "2 1 a g(X0,X0) apart a g(X0,X0)")

    def test_what_is_bound_elsewhere_in_the_left(self):
        self.pairs_of("order k h s a; rule k(X,h(X),X) -> X; rule h(s(Y)) -> Y;",
                      "1 2 s(X0) k(s(X0),X0,s(X0)) apart s(X0) k(s(X0),X0,s(X0))")


class Names(Check):
    def test_in_the_order_they_come_in_the_first_then_the_second(self):
        self.pairs_of("order f g h; rule f(A,B,C) -> g(C,A); rule f(X,Y,Z) -> h(Y,Z,X);",
                      "1 2 g(X0,X1) h(X2,X0,X1) apart g(X0,X1) h(X2,X0,X1)",
                      "2 1 h(X0,X1,X2) g(X1,X2) apart h(X0,X1,X2) g(X1,X2)")

    def test_those_in_the_second_alone(self):
        self.pairs_of("order f g a; rule f(X) -> a; rule f(g(Y,Z)) -> g(Z,Y);",
                      "1 2 a g(X0,X1) apart a g(X0,X1)", "2 1 g(X0,X1) a apart g(X0,X1) a")

    def test_ends_have_the_pairs_names(self):
        self.pairs_of("order f g h a; rule f(X,Y) -> g(X,Y); rule f(X,Y) -> h(Y); rule g(X,Y) -> Y; rule h(X) -> X;",
                      "1 2 g(X0,X1) h(X1) joined X1", "2 1 h(X0) g(X1,X0) joined X0")


class WellKnown(Check):
    def test_groups(self):
        self.pairs_of("order i f e; rule f(f(X,Y),Z) -> f(X,f(Y,Z)); rule f(e,X) -> X; rule f(i(X),X) -> e;",
                      "1 1 f(f(X0,X1),f(X2,X3)) f(f(X0,f(X1,X2)),X3) joined f(X0,f(X1,f(X2,X3)))",
                      "1 2 f(e,f(X0,X1)) f(X0,X1) joined f(X0,X1)",
                      "1 3 f(i(X0),f(X0,X1)) f(e,X1) apart f(i(X0),f(X0,X1)) X1")

    def test_sums(self):
        self.pairs_of("order p s 0; rule p(X,0) -> X; rule p(0,X) -> X; rule p(X,s(Y)) -> s(p(X,Y));",
                      "1 2 0 0 joined 0", "2 1 0 0 joined 0",
                      "2 3 s(X0) s(p(0,X0)) joined s(X0)", "3 2 s(p(0,X0)) s(X0) joined s(X0)")

    def test_turning(self):
        self.pairs_of("order c a; rule c(X,Y) -> c(Y,X); rule c(a,X) -> X;",
                      "1 2 c(X0,a) X0 unknown", "2 1 X0 c(X0,a) unknown")


if __name__ == "__main__":
    unittest.main()

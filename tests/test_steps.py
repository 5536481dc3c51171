"""What it means: a step and its place, and what terms come to."""

import unittest

from asking import ask, ask_lines, nested, spread


class Check(unittest.TestCase):
    def comes_to(self, text, *ends, steps=1000):
        lines = [line for line in ask_lines(text, steps=steps) if line.startswith("term ")]
        self.assertEqual(lines, ["term " + end for end in ends])


class Steps(Check):
    def test_no_step(self):
        self.comes_to("order f a b; rule f(a) -> b; term b; term a; term X; term f(b); term f(X); term f(f(b));",
                      "b", "a", "X0", "f(b)", "f(X0)", "f(f(b))")

    def test_some_steps(self):
        add = "order p s 0; rule p(X,0) -> X; rule p(X,s(Y)) -> s(p(X,Y)); "
        self.comes_to(add + "term p(s(s(0)),s(s(0))); term p(Y,s(X)); term p(A,s(0)); term p(0,p(0,s(0)));",
                      "s(s(s(s(0))))", "s(p(X0,X1))", "s(X0)", "s(0)")

    def test_steps_go_on_in_what_a_step_made(self):
        self.comes_to("order a b c f; rule a -> f(b); rule b -> c; rule f(c) -> c; term a;", "c")

    def test_variables_stand_for_terms(self):
        self.comes_to("order f g a b; rule f(X,Y) -> g(Y,X,Y); term f(g(a,b,a),f(a,B));",
                      "g(g(X0,a,X0),g(a,b,a),g(X0,a,X0))")

    def test_the_same_ones_for_the_same(self):
        self.comes_to("order e f a b t; rule e(X,X) -> t;"
                      "term e(a,a); term e(a,b); term e(f(a,B),f(a,B)); term e(f(a,b),f(b,a)); term e(X,X); term e(X,Y);"
                      "term e(e(a,a),t); term e(e(a,b),e(a,b));",
                      "t", "e(a,b)", "t", "e(f(a,b),f(b,a))", "t", "e(X0,X1)", "t", "t")
        self.comes_to("order e g a b t; rule e(X,g(Y,X),Y) -> t;"
                      "term e(a,g(b,a),b); term e(a,g(a,b),b); term e(a,g(b,a),a); term e(g(a,a),g(b,g(a,a)),b);",
                      "t", "e(a,g(a,b),b)", "e(a,g(b,a),a)", "t")

    def test_a_function_is_no_variable(self):
        # The function 0 and the variable that is told as X0 are not the same.
        self.comes_to("order f 0 1; rule f(0) -> 1; term f(0); term f(A);", "1", "f(X0)")

    def test_variables_are_numbered_as_they_come_at_the_beginning(self):
        self.comes_to("order f g a; rule f(X,Y,Z) -> g(Z,X); term f(C,B,A); term f(a,Q,Q); term f(X1,X1,X0);",
                      "g(X2,X0)", "g(X0,a)", "g(X1,X0)")

    def test_many_variables(self):
        names = ["V%d" % number for number in range(20, 0, -1)]
        self.comes_to("order f; term " + spread("f", names) + ";",
                      spread("f", ["X%d" % number for number in range(20)]))


class Places(Check):
    def test_the_first_rule_that_fits(self):
        self.comes_to("order f a b; rule f(X) -> a; rule f(b) -> b; term f(b);", "a")
        self.comes_to("order f a b; rule f(b) -> b; rule f(X) -> a; term f(b); term f(a);", "b", "a")

    def test_innermost_ahead_of_an_earlier_rule(self):
        self.comes_to("order f a b c; rule f(a) -> b; rule a -> c; term f(a);", "f(c)")
        self.comes_to("order f a b c; rule f(X) -> b; rule a -> a; term f(a); term f(b);", "unknown", "b")

    def test_innermost_counts_its_steps(self):
        # From outside in, this would be one step.
        text = "order f a b; rule f(X) -> b; rule a -> b; term f(a);"
        self.comes_to(text, "b", steps=2)
        self.comes_to(text, "unknown", steps=1)
        # And this two, not three.
        text = "order f g a b; rule f(X) -> g(X,X); rule a -> b; term f(a);"
        self.comes_to(text, "g(b,b)", steps=2)

    def test_leftmost_of_the_innermost(self):
        rules = "order p f g h w a; rule f(X) -> " + spread("g", ["X"] * 98) + "; rule h(X,Y,Z) -> a; "
        wide = spread("w", ["a"] * 100)
        rises = "f(" + wide + ")"
        falls = "h(a," + wide + ",a)"
        risen = spread("g", [wide] * 98)
        # 9901 at the most if what falls comes first, 10004 if what rises does.
        self.comes_to(rules + "term p(" + falls + "," + rises + ");", "p(a," + risen + ")")
        self.comes_to(rules + "term p(" + rises + "," + falls + ");", "unknown")


class Ends(Check):
    def test_a_last_step_within_steps_or_not(self):
        text = "order f s a; rule f(s(X)) -> f(X); term f(s(s(s(s(s(a))))));"
        self.comes_to(text, "f(a)", steps=5)
        self.comes_to(text, "unknown", steps=4)

    def test_steps_0(self):
        text = "order f a b; rule a -> b; term b; term f(X); term a; term f(a);"
        self.comes_to(text, "b", "f(X0)", "unknown", "unknown", steps=0)
        self.comes_to(text, "b", "f(X0)", "b", "f(b)", steps=1)

    def test_each_term_has_steps_of_its_own(self):
        self.comes_to("order a b c; rule a -> b; rule b -> c; term a; term a; term b; term c;", "c", "c", "c", "c",
                      steps=2)

    def counting(self, *depths):
        """A term of 3 * 2 ** depth - 2 steps for each of the depths."""
        return ("order d q w s a; rule d(s(X)) -> q(d(X),d(X)); rule q(X,Y) -> a; rule d(a) -> a;"
                + "term " + spread("w", ["d(" + nested("s", depth, "a") + ")" for depth in depths]) + ";")

    def test_10000_steps(self):
        self.comes_to(self.counting(11, 10, 8, 3), "w(a,a,a,a)", steps=10000)
        self.comes_to(self.counting(11, 10, 8, 3), "unknown", steps=9999)

    def test_10001_steps(self):
        self.comes_to(self.counting(11, 10, 8, 3, 0), "unknown", steps=10000)

    def test_no_end(self):
        self.comes_to("order a f s; rule a -> a; rule f(X) -> f(s(X)); term a; term f(a); term f(X); term s(X);",
                      "unknown", "unknown", "unknown", "s(X0)", steps=10000)


class Sizes(Check):
    def rising(self, copies, leaves, more="", term="f(%s)"):
        """A term that comes to 1 + copies * (1 + leaves) variables and functions."""
        wide = spread("w", ["a"] * leaves)
        return ("order f g h w a b c; rule f(X) -> " + spread("g", ["X"] * copies) + ";" + more
                + "term " + term % wide + ";")

    def test_an_end_of_10000(self):
        end = spread("g", [spread("w", ["a"] * 100)] * 99)
        self.comes_to(self.rising(99, 100), end)

    def test_an_end_of_10001(self):
        self.comes_to(self.rising(100, 99), "unknown")

    def test_10000_on_the_way(self):
        fall = "rule " + spread("g", ["X%d" % number for number in range(99)]) + " -> b;"
        self.comes_to(self.rising(99, 100, fall), "b")

    def test_10001_on_the_way(self):
        fall = "rule " + spread("g", ["X%d" % number for number in range(100)]) + " -> b;"
        self.comes_to(self.rising(100, 99, fall), "unknown")
        self.comes_to(self.rising(100, 98, fall), "b")

    def test_what_stands_around_counts(self):
        fall = "rule " + spread("g", ["X%d" % number for number in range(100)]) + " -> b;"
        # 1 + 100 * 99 is 9901, and 99 more are around it.
        around = spread("h", ["c"] * 49 + ["f(%s)"] + ["B"] * 49)
        self.comes_to(self.rising(100, 98, fall, around), spread("h", ["c"] * 49 + ["b"] + ["X0"] * 49))
        around = spread("h", ["c"] * 50 + ["f(%s)"] + ["B"] * 49)
        self.comes_to(self.rising(100, 98, fall, around), "unknown")

    def test_what_has_ended_before_counts(self):
        wide = spread("w", ["a"] * 98)
        # Each comes to 1 + 50 * 99, and h stands around them.
        risen = spread("g", [wide] * 50)
        self.comes_to(self.rising(50, 98, "", "h(f(%s),f(" + wide + "))"), "h(" + risen + "," + risen + ")")
        self.comes_to(self.rising(51, 98, "", "h(f(%s),f(" + wide + "))"), "unknown")

    def test_10001_at_the_last_step_that_steps_allow(self):
        self.comes_to(self.rising(100, 99), "unknown", steps=1)
        self.comes_to(self.rising(99, 100), spread("g", [spread("w", ["a"] * 100)] * 99), steps=1)

    def test_growing_without_end(self):
        self.assertEqual(ask("order f g a; rule f(X) -> g(f(X),f(X)); term f(a);"), "rule 1 open\nterm unknown\n")
        self.assertEqual(ask("order f g a; rule f(X) -> f(g(X,X)); term f(a);"), "rule 1 open\nterm unknown\n")


if __name__ == "__main__":
    unittest.main()

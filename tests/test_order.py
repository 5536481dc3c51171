"""What it means: the order, and which rules are above or open."""

import unittest

from asking import ask_lines, nested


class Order(unittest.TestCase):
    def is_above(self, order, rule):
        word = ask_lines("order " + order + "; rule " + rule + ";", steps=0)[0]
        self.assertIn(word, ("rule 1 above", "rule 1 open"))
        return word == "rule 1 above"

    def above(self, order, *rules):
        for rule in rules:
            with self.subTest(rule=rule):
                self.assertTrue(self.is_above(order, rule))

    def open(self, order, *rules):
        for rule in rules:
            with self.subTest(rule=rule):
                self.assertFalse(self.is_above(order, rule))

    def test_a_part_is_it(self):
        self.above("a f g", "g(a) -> a", "f(X,Y) -> Y", "f(X,Y) -> X", "g(g(X)) -> g(X)", "g(f(X,a)) -> f(X,a)")

    def test_a_part_is_above_it(self):
        self.above("a b g f", "g(g(X)) -> X", "g(g(g(X))) -> g(X)", "g(a) -> b", "f(X,g(g(Y))) -> g(Y)")
        self.open("a b g f", "g(b) -> a")

    def test_nothing_is_above_itself(self):
        self.open("f a", "a -> a", "f(X,a) -> f(X,a)", "f(X,Y) -> f(X,Y)")

    def test_before_in_the_order(self):
        self.above("f g a", "f(X) -> g(X)", "f(X) -> a", "f(X) -> g(g(g(a)))", "g(X) -> a")
        self.open("f g a", "g(X) -> f(X)", "a -> g(a)", "a -> f(a)")

    def test_above_all_of_the_parts(self):
        self.above("f g h a", "f(X,Y) -> g(X,Y)", "f(X,Y) -> g(Y,h(X))")
        self.open("f g h a", "f(X,g(Y,Y)) -> g(f(Y,g(Y,Y)),f(Y,g(Y,f(X,X))))", "h(X) -> h(h(X))", "g(X,Y) -> h(f(X,Y))")

    def test_a_lower_function_with_a_greater_within(self):
        self.open("f g", "f(X) -> g(f(X))", "f(X) -> g(f(f(X)))")
        self.above("f g", "f(f(X)) -> g(f(X))", "f(g(X)) -> g(g(f(X)))")

    def test_the_first_place_where_they_differ(self):
        self.above("f s a", "f(s(X),Y) -> f(X,s(Y))", "f(X,s(Y)) -> f(X,Y)", "f(s(X),Y) -> f(X,f(X,Y))",
                   "f(a,s(X)) -> f(a,X)", "f(f(X,Y),Z) -> f(X,f(Y,Z))")
        self.open("f s a", "f(X,s(Y)) -> f(s(X),Y)", "f(X,Y) -> f(Y,X)", "f(X,s(Y)) -> f(Y,X)",
                  "f(X,f(Y,Z)) -> f(f(X,Y),Z)")

    def test_where_they_differ_all_parts_count_still(self):
        self.open("f s a", "f(s(X),Y) -> f(X,f(s(X),Y))", "f(s(X),Y) -> f(X,f(s(X),s(Y)))")

    def test_only_the_first_difference_counts(self):
        self.open("f s a b", "f(a,s(s(X))) -> f(s(b),X)", "f(b,s(X),X) -> f(a,X,X)")
        self.above("f s a b", "f(s(b),X) -> f(b,s(X))")

    def test_lower_head_through_a_part(self):
        self.above("a f g h", "h(f(X)) -> g(X)", "h(f(X)) -> g(h(g(X)))")
        self.open("a f g h", "h(g(X)) -> f(X)")

    def test_variables_are_above_nothing(self):
        self.open("f g a", "g(X) -> f(a)", "g(X) -> f(X)")
        self.open("g a f", "f(X,a) -> g(X)")
        self.above("a g f", "f(X,a) -> a", "g(X) -> X")
        self.open("f a", "f(X,a) -> f(X,f(X,a))")

    def test_a_variable_has_to_come_from_a_part(self):
        self.above("f g", "g(f(X),Y) -> f(X)", "g(f(X),Y) -> Y")
        self.open("f g", "g(f(X),Y) -> f(Y)")

    def test_unused_functions_count_for_nothing(self):
        self.above("x f y g z", "f(X) -> g(X)")
        self.open("x g y f z", "f(X) -> g(X)")

    def test_well_known_rules(self):
        lines = ask_lines("order a m s p 0; "
                          "rule p(X,0) -> X; rule p(X,s(Y)) -> s(p(X,Y)); rule m(X,0) -> 0;"
                          "rule m(X,s(Y)) -> p(m(X,Y),X); rule a(0,Y) -> s(Y); rule a(s(X),0) -> a(X,s(0));"
                          "rule a(s(X),s(Y)) -> a(X,a(s(X),Y));", steps=0)
        words = [line.split()[2] for line in lines[:7]]
        self.assertEqual(words, ["above", "open", "above", "above", "above", "above", "above"])

    def test_numbers_run_from_1(self):
        lines = ask_lines("order a b; rule a -> b; rule b -> a; rule a -> a;", steps=0)
        self.assertEqual(lines[:3], ["rule 1 above", "rule 2 open", "rule 3 open"])

    def test_deep_terms_are_looked_at_once(self):
        # Gone through anew for each way to them, these would take forever.
        self.open("f g", nested("f", 49, "X") + " -> " + nested("f", 49, "X"),
                  nested("f", 48, "X") + " -> " + nested("f", 49, "X"), nested("g", 49, "X") + " -> " + nested("f", 49, "X"))
        wide = "a"
        for level in range(9):
            wide = "h(%s,%s)" % (wide, wide)
        self.open("k h a", wide + " -> k(" + wide + ")")
        self.above("a k b h", wide + " -> k(k(b))")


if __name__ == "__main__":
    unittest.main()

"""The promises: -2, -3, -4, -1, the first of these that's so, else what is told."""

import unittest

from asking import MOST, ask, ask_lines, spread


def great_first(copies, leaves):
    """Two rules whose pair has a first term of 1 + copies * (1 + leaves) variables and functions."""
    return ("order k h g w a; rule k(h(X)) -> " + spread("g", ["X"] * copies) + ";"
            + "rule h(" + spread("w", ["a"] * leaves) + ") -> a;")


def great_second(copies, leaves, right):
    """Two rules whose pair has a second term of 2 + right + copies * (1 + leaves) of them."""
    return ("order k h g v w a; rule " + spread("k", ["h(X)"] + ["X"] * copies) + " -> a;"
            + "rule h(" + spread("w", ["a"] * leaves) + ") -> " + spread("v", ["a"] * right) + ";")


def great_right(copies, leaves, others):
    """Two rules whose pair has a second term of 2 + others + copies * (1 + leaves), by the second rule's right."""
    left = spread("k", ["h(" + spread("w", ["a"] * leaves) + ")"] + ["a"] * others)
    return "order k h g w a; rule " + left + " -> a; rule h(Y) -> " + spread("g", ["Y"] * copies) + ";"


def signs_in(term):
    return term.count(",") + term.count("(") + 1


ORDINARY = "order f a b; rule f(X) -> a; rule f(b) -> b; term f(b);"
NOT_WELL_MADE = "order a"
TOO_GREAT = great_first(100, 99)


class Ranges(unittest.TestCase):
    def test_steps_out_of_range(self):
        for steps in (-1, 10001, -2147483648, 2147483647):
            self.assertEqual(ask(ORDINARY, steps=steps), -2)

    def test_most_out_of_range(self):
        for most in (-1, 4194305, -2147483648, 2147483647):
            self.assertEqual(ask(ORDINARY, most=most), -2)

    def test_steps_at_their_edges(self):
        for steps in (0, 10000):
            self.assertEqual(ask("order a; term a;", steps=steps), "term a\n")

    def test_most_at_its_edges(self):
        self.assertEqual(ask("order a;", most=0), "")
        self.assertEqual(ask("order a; term a;", most=0), -1)
        self.assertEqual(ask("order a; term a;", most=4194304), "term a\n")


class Length(unittest.TestCase):
    def test_just_as_long_as_most(self):
        whole = ask(ORDINARY)
        self.assertEqual(ask(ORDINARY, most=len(whole)), whole)

    def test_longer_than_most(self):
        for most in range(len(ask(ORDINARY))):
            self.assertEqual(ask(ORDINARY, most=most), -1)

    def longest(self, added):
        """A text of which 4194304 bytes and so many more are told."""
        name = "a" * 2620
        head = "rule 1 above\nrule 2 above\nterm \nterm \n"
        other = "b" * (MOST - len(head) - (40 * (40 * 2621 + 3) + 2) + added)
        return ("order h f g " + name + " " + other + ";"
                + "rule f(X) -> " + spread("g", ["X"] * 40) + ";"
                + "rule h(X) -> f(f(X)); term h(" + name + "); term " + other + ";")

    def test_just_as_long_as_the_greatest_most(self):
        self.assertEqual(len(ask(self.longest(0))), 4194304)

    def test_one_byte_longer_than_the_greatest_most(self):
        self.assertEqual(ask(self.longest(1)), -1)


class TooGreatPairs(unittest.TestCase):
    def test_first_of_10000(self):
        words = ask_lines(great_first(99, 100))[2].split()
        self.assertEqual(words[:3], ["pair", "1", "2"])
        self.assertEqual(signs_in(words[3]), 10000)
        self.assertEqual(words[4:6], ["k(a)", "apart"])
        self.assertEqual(words[6:], [words[3], "k(a)"])

    def test_first_of_10001(self):
        self.assertEqual(ask(great_first(100, 99)), -4)

    def test_second_of_10000(self):
        words = ask_lines(great_second(100, 98, 98))[2].split()
        self.assertEqual(words[:4], ["pair", "1", "2", "a"])
        self.assertEqual(signs_in(words[4]), 10000)
        self.assertEqual(words[5:], ["apart", "a", words[4]])

    def test_second_of_10001(self):
        self.assertEqual(ask(great_second(100, 98, 99)), -4)

    def test_second_of_10000_by_the_second_rule(self):
        words = ask_lines(great_right(99, 99, 98))[2].split()
        self.assertEqual(words[:4], ["pair", "1", "2", "a"])
        self.assertEqual(signs_in(words[4]), 10000)

    def test_second_of_10001_by_the_second_rule(self):
        self.assertEqual(ask(great_right(99, 99, 99)), -4)

    def test_great_lefts_that_come_to_no_pair_term(self):
        text = ("order k h v w a; rule h(" + spread("v", ["X"] * 100) + ",X) -> a;"
                + "rule h(Y," + spread("w", ["a"] * 100) + ") -> a;")
        self.assertEqual(ask(text), "rule 1 above\nrule 2 above\npair 1 2 a a joined a\npair 2 1 a a joined a\n")

    def test_a_later_pair_is_too_great(self):
        self.assertEqual(ask("order p q; rule p -> q; rule p -> p; " + TOO_GREAT), -4)


class FirstRefusal(unittest.TestCase):
    def test_ranges_ahead_of_the_rest(self):
        for text in (NOT_WELL_MADE, TOO_GREAT, ORDINARY):
            self.assertEqual(ask(text, steps=-1, most=0), -2)
            self.assertEqual(ask(text, steps=0, most=-1), -2)

    def test_not_well_made_ahead_of_too_great_and_too_long(self):
        self.assertEqual(ask(TOO_GREAT + NOT_WELL_MADE, most=0), -3)
        self.assertEqual(ask(ORDINARY + NOT_WELL_MADE, most=0), -3)

    def test_too_great_ahead_of_too_long(self):
        self.assertEqual(ask(TOO_GREAT, most=0), -4)
        self.assertEqual(ask("order p q; rule p -> q; " + TOO_GREAT + "term p;", most=1), -4)


if __name__ == "__main__":
    unittest.main()

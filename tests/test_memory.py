"""What is told needs little memory, however long the ends and the ways to them are."""

import random
import unittest
from unittest import mock

import plain
from asking import ask, ask_lines, ask_within, nested, spread
from making import made_text
from termpairs import ends
from termpairs.rules import told

# Much less than what the texts below would need if all that comes on the way were kept.
MEMORY = 128 << 20
LONG = "l" * 4000
# Less than a term that has this name some thousand times.
LITTLE = 20 << 20

# d(d(d(X))) comes to 9261 times X and 463 functions around them.
SPREADING = "order v h d g; rule v(X,Y) -> h(d(d(d(%s))),X,Y); rule d(X) -> %s;" % (LONG, spread("g", ["X"] * 21))
SIGNS = "0123456789"


def meeting(other):
    """100 pairs each way round of terms v(a0,b0) .. v(a9,b9) with this other one."""
    rows = ["order f o %s %s;" % (LONG, " ".join(side + sign for side in "ab" for sign in SIGNS))]
    rows += ["rule f(a%s,Z)->v(a%s,Z);" % (sign, sign) for sign in SIGNS]
    rows += ["rule f(W,b%s)->%s;" % (sign, other) for sign in SIGNS]
    return "".join(rows) + SPREADING


class LongEnds(unittest.TestCase):
    def test_nothing_of_them_is_told(self):
        lines = ask_within(MEMORY, meeting("o") + "rule o->o;", steps=10).split("\n")
        self.assertEqual(lines[23:-1],
                         ["pair %d %d v(a%d,b%d) o unknown" % (one + 1, other + 11, one, other)
                          for one in range(10) for other in range(10)]
                         + ["pair %d %d o v(a%d,b%d) unknown" % (other + 11, one + 1, one, other)
                            for other in range(10) for one in range(10)])

    def test_too_long_to_be_told(self):
        self.assertEqual(ask_within(LITTLE, meeting("o"), steps=10), -1)
        text = SPREADING.replace(LONG, "b") + "order b %s; term d(d(d(%s)));" % (LONG, LONG)
        self.assertEqual(ask_within(LITTLE, text), -1)

    def test_a_pair_too_long_to_be_told(self):
        # Each Y is three times the one before, so that the long name comes 3 ** 8 times.
        ones = []
        others = [LONG, "Y0"]
        for number in range(8):
            ones += ["X%d" % number] * 2
            others += ["f(Y%d,Y%d,Y%d)" % ((number,) * 3), "Y%d" % (number + 1)]
        lefts = (spread("h", ones + ["X8"] * 2), spread("h", others))
        text = "order h f %s a; rule %s -> X8; rule %s -> a;" % (LONG, lefts[0], lefts[1])
        self.assertEqual(ask_within(LITTLE, text), -1)
        self.assertEqual(ask(text.replace(LONG, "k")).count("k"), 4 * 3 ** 8)

    def test_room_for_some_ends_alone(self):
        text = "order f g a b c; rule f(X) -> g(X,X); rule c -> c; "
        terms = "term f(a); term f(b); term a; term c; term f(a); term f(b); term a; term c; term f(f(a));"
        told_of_all = ask(text + terms, steps=10)
        self.assertEqual(told_of_all.split("\n")[2:6], ["term g(a,a)", "term g(b,b)", "term a", "term unknown"])
        for room in (0, 1, 2, 3, 4, 5, 7, 100):
            with mock.patch.object(ends, "MOST_KEPT", room):
                self.assertEqual(ask(text + terms, steps=10), told_of_all)

    def test_ends_kept_are_few(self):
        with mock.patch.object(ends, "MOST_KEPT", 7):
            kept = ends.Ends([], 0)
        for name in SIGNS:
            row = [("f", 2), (name, 0), (0, 0)]
            self.assertEqual(kept.end_of(row), row)
        self.assertEqual(sum(len(end) for end in kept.known.values()), 6)
        self.assertEqual(kept.end_of([("a", 0)]), [("a", 0)])
        self.assertIn("a", kept.known)


def counting(number, right, leaf="z"):
    """A term that takes (number + 1) ** 3 - 1 steps."""
    high = nested("s", number, "z")
    return ("order f g p s u z y; rule f(s(A),B,D,T) -> f(A,B,D,%s); rule f(z,s(B),D,T) -> f(%s,B,D,%s);"
            "rule f(z,z,s(D),T) -> f(%s,%s,D,%s); term f(%s,%s,%s,%s);"
            % (right, high, leaf, high, high, leaf, high, high, high, leaf))


class ManySteps(unittest.TestCase):
    def test_terms_left_behind(self):
        # The lower s stands in a chain, the more terms the chain has that no other has.
        chains = [nested("u", number, "s(" + nested("u", 44 - number, "p(A,B,D)") + ")") for number in range(40)]
        wide = spread("g", chains)
        end = wide.replace("A,B,D", "z,z,z")
        self.assertEqual(ask_within(MEMORY, counting(11, wide), steps=10000),
                         "rule 1 above\nrule 2 open\nrule 3 open\nterm f(z,z,z,%s)\n" % end)

    def test_terms_left_behind_that_were_not_the_last(self):
        # T keeps what was made before, as far as it isn't dropped; all of it is still there at the end.
        text = counting(5, "g(p(A,B,D),T)", "y")
        plainly = ask(text, steps=10000)
        self.assertEqual(plainly.count("term f(z,z,z,g(p(z,z,z),g(p(s(z),z,z),"), 1)
        for most in (0, 1, 20, 50):
            with mock.patch.object(ends, "MOST_STORED", most):
                self.assertEqual(ask(text, steps=10000), plainly)

    def test_terms_made_before_those_left_behind_or_behind_them(self):
        text = "order f h k a b c e; rule f(X) -> h(c,k(X),c,X); rule k(X) -> e; term f(f(a)); term f(h(f(a),b,c,k(b)));"
        due = ["term h(c,e,c,h(c,e,c,a))", "term h(c,e,c,h(h(c,e,c,a),b,c,e))"]
        for most in (0, 1, 2, 3, 4, 5):
            with mock.patch.object(ends, "MOST_STORED", most):
                self.assertEqual(ask_lines(text)[-2:], due)
                dropping = ask_lines("order f h k a b c e; rule f(X) -> h(c,k(X),c); rule k(X) -> e; term f(a);")
                self.assertEqual(dropping[-1], "term h(c,e,c)")

    def test_the_store_stays_small(self):
        rules = ends.Ends([Rule([("f", 1), (0, 0)], [("f", 1), ("g", 2), (0, 0), ("a", 0)])], 100).makings
        with mock.patch.object(ends, "MOST_STORED", 50):
            way = ends.Way([("h", 2), (7, 0), ("f", 1), ("a", 0)])
            for number in range(1, 31):
                self.assertTrue(way.goes_on(rules))
                self.assertEqual(way.size, 4 + 2 * number)
                self.assertLess(len(way.store.heads), 60)

    def test_texts_made_up(self):
        # With so little room, terms are forgotten at every step.
        with mock.patch.object(ends, "MOST_STORED", 0), mock.patch.object(ends, "MOST_KEPT", 4):
            for seed in range(10000, 10500):
                chance = random.Random(seed)
                text = made_text(chance)
                with self.subTest(seed=seed, text=text):
                    self.assertEqual(told(30, 4194304, [ord(sign) for sign in text]), plain.told(30, 4194304, text))


class Rule:
    def __init__(self, left, right):
        self.left = left
        self.right = right


if __name__ == "__main__":
    unittest.main()

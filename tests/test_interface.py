"""The interface: names and kinds, nothing changed, kept, printed, read or imported, and no deep calls."""

import contextlib
import inspect
import io
import os
import subprocess
import sys
import unittest

from asking import ask, ask_lines, nested, spread
from termpairs.rules import told

ROOT = os.path.dirname(os.path.dirname(os.path.abspath(__file__)))
ORDINARY = "order f g a b; rule f(g(X,Y)) -> X; rule g(a,Z) -> b; # one\nterm f(g(B,a)); term g(a,a);"


def numbers_of(text):
    return [ord(sign) for sign in text]


class Untouched(list):
    """A list that must not be changed, not for a while either."""

    def refuse(self, *given, **named):
        raise AssertionError("changed")

    append = extend = insert = pop = remove = clear = sort = reverse = refuse
    __setitem__ = __delitem__ = __iadd__ = __imul__ = refuse


class Kinds(unittest.TestCase):
    def test_arguments(self):
        self.assertEqual(list(inspect.signature(told).parameters), ["steps", "most", "text"])

    def test_arguments_by_name(self):
        self.assertEqual(told(steps=1, most=100, text=numbers_of("order a; term a;")),
                         [7] + numbers_of("term a\n"))

    def test_whole_numbers_in_a_list(self):
        for text in (ORDINARY, "", "order a", "order a;"):
            answer = told(10, 1000, numbers_of(text))
            self.assertIs(type(answer), list)
            self.assertTrue(all(type(number) is int for number in answer))
            self.assertTrue(all(0 <= number <= 255 for number in answer[1:]))

    def test_count_then_bytes(self):
        answer = told(10, 1000, numbers_of("order a b; rule a -> b;"))
        self.assertEqual(answer, [13] + numbers_of("rule 1 above\n"))

    def test_refusals_alone(self):
        self.assertEqual(told(-1, 0, []), [-2])
        self.assertEqual(told(0, 0, [0]), [-3])
        self.assertEqual(told(0, 0, numbers_of("order a; term a;")), [-1])

    def test_longest_text(self):
        text = "order a; term a;" + " " * 8176
        self.assertEqual(len(text), 8192)
        self.assertEqual(ask(text), "term a\n")
        text = "order a; " + "term a;" * 1169
        self.assertEqual(len(text), 8192)
        self.assertEqual(ask(text), "term a\n" * 1169)


class NothingKept(unittest.TestCase):
    def test_what_is_handed_in_is_not_changed(self):
        for text in (ORDINARY, "order a", "order a;term a", ""):
            numbers = Untouched(numbers_of(text))
            told(100, 1000, numbers)
            self.assertEqual(list(numbers), numbers_of(text))

    def test_the_same_again(self):
        first = told(100, 1000, numbers_of(ORDINARY))
        again = list(first)
        first.clear()
        self.assertEqual(told(100, 1000, numbers_of(ORDINARY)), again)

    def test_other_calls_between(self):
        asked = [(ORDINARY, 100, 1000), ("order b a; rule a -> b; term a;", 5, 100), ("order f; term f(f);", 5, 100),
                 ("order a b; rule a -> b; term a;", 5, 100), (ORDINARY, 0, 1000), (ORDINARY, 100, 10), ("", 0, 0)]
        first = [ask(*given) for given in asked]
        self.assertEqual([ask(*given) for given in reversed(asked)], first[::-1])

    def test_nothing_is_printed(self):
        out = io.StringIO()
        with contextlib.redirect_stdout(out), contextlib.redirect_stderr(out):
            ask(ORDINARY)
            ask("order a")
        self.assertEqual(out.getvalue(), "")

    def test_nothing_is_imported(self):
        code = ("import sys; sys.path.insert(0, %r); before = set(sys.modules); import termpairs.rules; "
                "termpairs.rules.told(10, 1000, list(%r)); new = set(sys.modules) - before; "
                "sys.exit(any(name.split('.')[0] != 'termpairs' for name in new))" % (ROOT, ORDINARY.encode()))
        self.assertEqual(subprocess.run([sys.executable, "-B", "-c", code], check=False).returncode, 0)


# 40 functions, 1600, and 6 * 1600 + 9 * 40, which is 9960.
TOWERS = ("order p2 p1 p0 s a b c; rule p0(X) -> " + nested("s", 40, "X") + "; rule p1(X) -> " + nested("p0", 40, "X")
          + "; rule p2(X) -> " + nested("p1", 6, nested("p0", 9, "X")) + "; ")


class Deep(unittest.TestCase):
    def ends(self, text, *ends):
        lines = [line for line in ask_lines(text, steps=10000) if line.startswith("term ")]
        self.assertEqual(lines, ["term " + end for end in ends])

    def test_an_end_10000_deep(self):
        self.ends(TOWERS + "term p2(" + nested("s", 39, "a") + "); term p2(" + nested("s", 39, "B") + ");",
                  nested("s", 9999, "a"), nested("s", 9999, "X0"))

    def test_an_end_10001_deep(self):
        self.ends(TOWERS + "term p2(" + nested("s", 40, "a") + ");", "unknown")

    def test_walking_down_a_deep_term(self):
        self.ends(TOWERS + "order w; rule w(s(X)) -> w(X); term w(" + nested("p1", 5, "a") + ");", "w(a)")
        self.ends(TOWERS + "order w; rule w(s(X)) -> s(w(X)); term w(p1(a));", nested("s", 1600, "w(a)"))

    def test_deep_terms_that_are_the_same_or_not(self):
        half = nested("p1", 3, "%s")
        self.ends(TOWERS + "order e; rule e(X,X) -> c; term e(" + half % "a" + "," + half % "a" + ");"
                  + "term e(" + half % "a" + "," + half % "b" + ");",
                  "c", "e(" + nested("s", 4800, "a") + "," + nested("s", 4800, "b") + ")")

    def test_steps_waiting_within_one_another(self):
        self.ends("order f g a; rule f(X) -> g(f(X)); term f(a);", "unknown")

    def test_a_pair_with_deep_ends(self):
        lines = ask_lines(TOWERS + "rule a -> p2(b); rule a -> p2(p0(c)); rule a -> p2(b);", steps=10000)
        # p2(p0(c)) would come to 10001, just too many.
        self.assertEqual(lines[6:9], ["pair 4 5 p2(b) p2(p0(c)) unknown",
                                      "pair 4 6 p2(b) p2(b) joined " + nested("s", 9960, "b"),
                                      "pair 5 4 p2(p0(c)) p2(b) unknown"])


def chained(times, part, right):
    """Two rules that meet at the top, where each variable must be a term made of the one before it."""
    ones = ["X0"]
    others = ["Y0"]
    for number in range(times):
        ones += ["X%d" % (number + 1)] * 2
        others += [part.replace("Z", "Y%d" % number), "Y%d" % (number + 1)]
    return ("order h f s a; rule " + spread("h", ones) + " -> " + right + "; rule " + spread("h", others) + " -> a;")


class GreatPairs(unittest.TestCase):
    def test_a_deep_pair(self):
        deep = nested("s", 45 * 40, "X0")
        self.assertEqual(ask_lines(chained(40, nested("s", 45, "Z"), "X40"))[2:],
                         ["pair 1 2 %s a apart %s a" % (deep, deep), "pair 2 1 a %s apart a %s" % (deep, deep)])

    def test_far_greater_than_any_memory(self):
        self.assertEqual(ask(chained(300, "f(Z,Z)", "X300")), -4)
        self.assertEqual(ask(chained(300, "f(Z,Z)", "X300"), most=0), -4)

    def test_just_great_enough(self):
        self.assertEqual(ask(chained(13, "f(Z,Z)", "X13")), -4)
        self.assertEqual(ask_lines(chained(12, "f(Z,Z)", "X12"))[2].count("X0"), 2 * 2 ** 12)

    def test_great_terms_that_no_pair_has(self):
        self.assertEqual(ask_lines(chained(300, "f(Z,Z)", "X0"))[2:],
                         ["pair 1 2 X0 a apart X0 a", "pair 2 1 a X0 apart a X0"])

    def test_great_terms_made_one_with_each_other(self):
        # Compared sign by sign, the two towers would take forever.
        ones = ["X%d" % number for number in range(1, 151)]
        others = ["f(X%d,X%d)" % (number, number) for number in range(150)]
        text = ("order h f a; rule " + spread("h", ones + ["Y" + one for one in ones] + ["X150"]) + " -> a; rule "
                + spread("h", others + [other.replace("X", "Y") for other in others] + ["Y"]) + " -> a;")
        self.assertEqual(ask_lines(text)[2:], ["pair 1 2 a a joined a", "pair 2 1 a a joined a"])

    def test_a_great_term_within_itself_is_no_pair(self):
        text = chained(300, "f(Z,Z)", "X300")
        self.assertEqual(len(ask_lines(text.replace("h(X0,", "h(X300,"))), 2)


class FewCalls(unittest.TestCase):
    def test_few_calls_within_one_another(self):
        code = ("import sys; sys.path.insert(0, %r)\nfrom termpairs.rules import told\nsys.setrecursionlimit(60)\n"
                "for text in %r:\n    told(10000, 4194304, list(text))\n")
        texts = [TOWERS + "term p2(a);", TOWERS + "order e; rule e(X,X) -> c; term e(p1(a),p1(a));",
                 chained(40, nested("s", 45, "Z"), "X40"), chained(300, "f(Z,Z)", "X300"),
                 "order f g a; rule f(X) -> g(f(X)); term f(a);", "order f; term " + "f(" * 4000,
                 "order f; rule " + nested("f", 49, "X") + " -> " + nested("f", 48, "X") + ";"]
        code = code % (ROOT, [text.encode() for text in texts])
        self.assertEqual(subprocess.run([sys.executable, "-B", "-c", code], check=False).returncode, 0)


if __name__ == "__main__":
    unittest.main()

"""The document once more, as plainly as can be, to hold the program against.

Terms are nested tuples: a function is (name, part, ...), a variable ("?", name).
Nothing here is quick; it is for small texts alone.
"""

import re
import sys

TOKEN = re.compile(r"[ \t\n]+|#[^\n]*|([A-Za-z0-9][A-Za-z0-9_]*|->|[(),;])")
LIMIT = 10000


class Bad(Exception):
    pass


def tokens_of(text):
    found = []
    at = 0
    while at < len(text):
        match = TOKEN.match(text, at)
        if not match:
            raise Bad
        if match.group(1):
            found.append(match.group(1))
        at = match.end()
    return found


def is_name(token):
    return token[0].isalnum()


def is_variable(term):
    return term[0] == "?"


class Parser:
    def __init__(self, text):
        self.tokens = tokens_of(text) + [""]
        self.at = 0
        self.order = []
        self.rules = []
        self.terms = []

    def take(self, wanted=None):
        token = self.tokens[self.at]
        if not token or (wanted and token != wanted):
            raise Bad
        self.at += 1
        return token

    def term(self, level=0):
        token = self.take()
        if level > 49 or not is_name(token):
            raise Bad
        if token[0].isupper():
            return ("?", token)
        parts = []
        if self.tokens[self.at] == "(":
            self.take("(")
            parts.append(self.term(level + 1))
            while self.tokens[self.at] == ",":
                self.take(",")
                parts.append(self.term(level + 1))
            self.take(")")
        return (token, *parts)

    def item(self):
        word = self.take()
        if word == "order":
            while self.tokens[self.at] != ";":
                token = self.take()
                if not is_name(token) or token[0].isupper():
                    raise Bad
                self.order.append(token)
        elif word == "rule":
            left = self.term()
            self.take("->")
            self.rules.append((left, self.term()))
        elif word == "term":
            self.terms.append(self.term())
        else:
            raise Bad
        self.take(";")

    def whole(self):
        while self.tokens[self.at]:
            self.item()
        arities = {}
        for term in [side for rule in self.rules for side in rule] + self.terms:
            for part in subterms(term):
                if not is_variable(part):
                    arities.setdefault(part[0], set()).add(len(part) - 1)
        if any(len(found) > 1 for found in arities.values()):
            raise Bad
        if any(self.order.count(name) != 1 for name in set(arities) | set(self.order)):
            raise Bad
        for left, right in self.rules:
            if is_variable(left) or not set(variables(right)) <= set(variables(left)):
                raise Bad
        if len(self.rules) > 64:
            raise Bad
        return self


def subterms(term):
    found = [term]
    if not is_variable(term):
        for part in term[1:]:
            found += subterms(part)
    return found


def variables(term):
    return [part for part in subterms(term) if is_variable(part)]


def size(term):
    return 1 if is_variable(term) else 1 + sum(size(part) for part in term[1:])


def above(s, t, order):
    if is_variable(s):
        return False
    if any(part == t or above(part, t, order) for part in s[1:]):
        return True
    if is_variable(t) or not all(above(s, part, order) for part in t[1:]):
        return False
    if s[0] != t[0]:
        return order.index(s[0]) < order.index(t[0])
    for one, other in zip(s[1:], t[1:]):
        if one != other:
            return above(one, other, order)
    return False


def match(pattern, term, bound):
    if is_variable(pattern):
        return bound.setdefault(pattern, term) == term
    return (pattern[0] == term[0] and len(pattern) == len(term)
            and all(match(one, other, bound) for one, other in zip(pattern[1:], term[1:])))


def put(term, bound):
    if is_variable(term):
        return bound.get(term, term)
    return (term[0], *[put(part, bound) for part in term[1:]])


def step(term, rules):
    if is_variable(term):
        return None
    for at in range(1, len(term)):
        onward = step(term[at], rules)
        if onward is not None:
            return term[:at] + (onward,) + term[at + 1:]
    for left, right in rules:
        bound = {}
        if match(left, term, bound):
            return put(right, bound)
    return None


def end(term, rules, steps):
    for taken in range(steps + 1):
        if size(term) > LIMIT:
            return None
        onward = step(term, rules)
        if onward is None:
            return term
        term = onward
    return None


def unify(one, other):
    solved = {}
    waiting = [(one, other)]
    while waiting:
        one, other = waiting.pop(0)
        one, other = put(one, solved), put(other, solved)
        if one == other:
            continue
        if not is_variable(one) and is_variable(other):
            one, other = other, one
        if is_variable(one):
            if one in subterms(other):
                return None
            solved = {key: put(value, {one: other}) for key, value in solved.items()}
            solved[one] = other
        elif one[0] != other[0]:
            return None
        else:
            waiting += zip(one[1:], other[1:])
    return solved


def places(term, path=()):
    if is_variable(term):
        return []
    found = [path]
    for at in range(1, len(term)):
        found += places(term[at], path + (at,))
    return found


def get(term, path):
    return get(term[path[0]], path[1:]) if path else term


def swap(term, path, new):
    if not path:
        return new
    at = path[0]
    return term[:at] + (swap(term[at], path[1:], new),) + term[at + 1:]


def own(term):
    return put(term, {found: ("?", found[1] + "'") for found in variables(term)})


def named(*terms):
    names = {}
    for term in terms:
        for found in variables(term):
            names.setdefault(found, ("?", "X%d" % len(names)))
    return [put(term, names) for term in terms]


def pairs(rules):
    found = []
    for i, (left, right) in enumerate(rules):
        for path in places(left):
            for j, (other_left, other_right) in enumerate(rules):
                if i == j and not path:
                    continue
                solved = unify(get(left, path), own(other_left))
                if solved is not None:
                    one = put(right, solved)
                    other = put(swap(left, path, own(other_right)), solved)
                    found.append((i + 1, j + 1, *named(one, other)))
    return found


def show(term):
    if is_variable(term):
        return term[1]
    if len(term) == 1:
        return term[0]
    return term[0] + "(" + ",".join(show(part) for part in term[1:]) + ")"


def lines(text, steps):
    book = Parser(text).whole()
    found = pairs(book.rules)
    if any(size(pair[2]) > LIMIT or size(pair[3]) > LIMIT for pair in found):
        return -4
    made = []
    for at, (left, right) in enumerate(book.rules):
        made.append("rule %d %s" % (at + 1, "above" if above(left, right, book.order) else "open"))
    for i, j, one, other in found:
        ends = [end(one, book.rules, steps), end(other, book.rules, steps)]
        if None in ends:
            how = "unknown"
        elif ends[0] == ends[1]:
            how = "joined " + show(ends[0])
        else:
            how = "apart " + show(ends[0]) + " " + show(ends[1])
        made.append("pair %d %d %s %s %s" % (i, j, show(one), show(other), how))
    for term in book.terms:
        came = end(named(term)[0], book.rules, steps)
        made.append("term " + ("unknown" if came is None else show(came)))
    return "".join(line + "\n" for line in made)


def told(steps, most, text):
    if not (0 <= steps <= 10000 and 0 <= most <= 4194304):
        return [-2]
    calls = sys.getrecursionlimit()
    sys.setrecursionlimit(100000)
    try:
        answer = lines(text, steps)
    except Bad:
        return [-3]
    finally:
        sys.setrecursionlimit(calls)
    if answer == -4:
        return [-4]
    if len(answer) > most:
        return [-1]
    return [len(answer)] + [ord(sign) for sign in answer]

"""Terms, as rows and in a store.

A term's row holds its variables and functions from left to right, each with how
many terms it takes: f(X, a) is [("f", 2), (0, 0), ("a", 0)]. Functions are texts,
variables whole numbers.
"""

# More variables and functions than this in one term are too many.
MOST_SIZE = 10000


class Store:
    """Terms, each kept once: equal terms have equal numbers, and a term's parts lower ones than it."""

    def __init__(self):
        self.heads = []
        self.parts = []
        self.sizes = []
        self.numbers = {}

    def kept(self, head, parts):
        """The number of the term with this head and parts of these numbers."""
        number = self.numbers.get((head, parts))
        if number is None:
            number = self.added(head, parts)
        return number

    def added(self, head, parts):
        """The number of such a term that is new."""
        number = len(self.heads)
        self.numbers[(head, parts)] = number
        self.heads.append(head)
        self.parts.append(parts)
        self.sizes.append(1 + sum([self.sizes[part] for part in parts]))
        return number

    def holds_variable(self, number):
        return isinstance(self.heads[number], int)


def numbers_of(store, row):
    """The number of the term at each place of a row."""
    waiting = []
    numbers = []
    # From the right, so that a function comes when its terms are ready.
    for head, count in reversed(row):
        parts = tuple([waiting.pop() for part in range(count)])
        waiting.append(store.kept(head, parts))
        numbers.append(waiting[-1])
    return numbers[::-1]


def moved_terms(store, numbers, other):
    """The numbers that these terms, and all within them, get in another store."""
    wanted = {}
    waiting = list(numbers)
    while waiting:
        number = waiting.pop()
        if number not in wanted:
            wanted[number] = True
            waiting.extend(store.parts[number])
    moved = {}
    # A term's parts have lower numbers, so they have moved before it.
    for number in sorted(wanted):
        parts = tuple([moved[part] for part in store.parts[number]])
        moved[number] = other.kept(store.heads[number], parts)
    return moved


def followed(links, number):
    """The number at the end of the links that begin at this one."""
    while number in links:
        onward = links[number]
        # Shortened on the way, so that long chains are walked once only.
        if onward in links:
            links[number] = links[onward]
        number = onward
    return number


def row_of(store, number, links):
    """The row of a term, where each number that has a link stands for the one it leads to."""
    row = []
    waiting = [number]
    while waiting:
        here = followed(links, waiting.pop())
        parts = store.parts[here]
        row.append((store.heads[here], len(parts)))
        waiting.extend(parts[::-1])
    return row


def written_length(row):
    """How long a term is as it is told."""
    length = 0
    for head, count in row:
        length += len(sign_of(head))
        # Two brackets, and the commas between.
        if count > 0:
            length += count + 1
    return length


def sign_of(head):
    return f"X{head}" if isinstance(head, int) else head


def written(row):
    """A term as it is told."""
    pieces = []
    missing = []
    for head, count in row:
        pieces.append(sign_of(head))
        if count > 0:
            pieces.append("(")
            missing.append(count)
            continue
        while missing and missing[-1] == 1:
            pieces.append(")")
            missing.pop()
        if missing:
            pieces.append(",")
            missing[-1] -= 1
    return "".join(pieces)

"""Where two rules meet, and what comes there."""

from termpairs.refusals import TooGreat
from termpairs.terms import MOST_SIZE, followed, numbers_of, row_of

# A text has fewer variables than this, so a second rule's never are a first rule's.
SHIFT = 10000


class Side:
    """A rule as the first or the second of a pair, with variables of its own."""

    def __init__(self, store, rule, shift):
        self.left = shifted(rule.left, shift)
        self.right = shifted(rule.right, shift)
        self.places = numbers_of(store, self.left)
        self.rights = numbers_of(store, self.right)
        self.left_counts = variable_counts(store, self.places)
        self.right_counts = variable_counts(store, self.rights)


class Meetings:
    """Places where some rules meet: a first rule, a place of its left, a second rule."""

    def __init__(self, store, rules):
        self.store = store
        self.firsts = [Side(store, rule, 0) for rule in rules]
        self.seconds = [Side(store, rule, SHIFT) for rule in rules]

    def found(self):
        """All of them in their order, none with too great a term."""
        found = []
        for first, side in enumerate(self.firsts):
            for place, number in enumerate(side.places):
                if not self.store.holds_variable(number):
                    for second in range(len(self.seconds)):
                        meeting = (first, place, second)
                        if self.is_pair(meeting):
                            found.append(meeting)
        return found

    def is_pair(self, meeting):
        if meeting[1] == 0 and meeting[0] == meeting[2]:
            return False
        links = self.links_at(meeting)
        if links is None:
            return False
        sizes = linked_sizes(self.store, links, self.firsts[meeting[0]].places[meeting[1]])
        if sizes is None:
            return False
        if max(self.pair_sizes(meeting, links, sizes)) > MOST_SIZE:
            raise TooGreat()
        return True

    def links_at(self, meeting):
        number = self.firsts[meeting[0]].places[meeting[1]]
        return links_between(self.store, number, self.seconds[meeting[2]].places[0])

    def pair_sizes(self, meeting, links, sizes):
        """The sizes of a pair's terms, reckoned without making them: they may be far too great."""
        first = self.firsts[meeting[0]]
        second = self.seconds[meeting[2]]
        gains = {}
        for number in list(links):
            if self.store.holds_variable(number):
                gains[number] = sizes[followed(links, number)] - 1
        met = sizes[followed(links, first.places[meeting[1]])]
        left = len(first.left) + gained(first.left_counts, gains)
        right = len(second.right) + gained(second.right_counts, gains)
        return (len(first.right) + gained(first.right_counts, gains), left - met + right)

    def pair_rows(self, meeting):
        """The rows of a pair's two terms, their variables numbered as they come."""
        links = self.links_at(meeting)
        first = self.firsts[meeting[0]]
        second = self.seconds[meeting[2]]
        place = meeting[1]
        behind = place + self.store.sizes[first.places[place]]
        around = first.left[:place] + second.right + first.left[behind:]
        names = {}
        one = renamed(self.linked_row(first.right, links), names)
        other = renamed(self.linked_row(around, links), names)
        return (one, other)

    def linked_row(self, row, links):
        """The row with the terms that the links give to its variables."""
        made = []
        for head, count in row:
            if isinstance(head, int):
                made.extend(row_of(self.store, self.store.kept(head, ()), links))
            else:
                made.append((head, count))
        return made


def shifted(row, shift):
    return [(head + shift if isinstance(head, int) else head, count) for head, count in row]


def variable_counts(store, numbers):
    """How often each variable stands among these numbers."""
    counts = {}
    for number in numbers:
        if store.holds_variable(number):
            counts[number] = counts.get(number, 0) + 1
    return counts


def gained(counts, gains):
    return sum([counts.get(number, 0) * gain for number, gain in gains.items()])


def links_between(store, one, other):
    """Links from terms to those that they must be one with, or None if functions stand against it.

    Whole classes of terms are made one, never a term gone through twice, and a
    function, if there is one, is where the links of a class lead.
    """
    links = {}
    waiting = [(one, other)]
    while waiting:
        pair = waiting.pop()
        here = followed(links, pair[0])
        there = followed(links, pair[1])
        if here == there:
            continue
        if store.holds_variable(here):
            links[here] = there
        elif store.holds_variable(there):
            links[there] = here
        elif store.heads[here] != store.heads[there]:
            return None
        else:
            links[here] = there
            waiting.extend(list(zip(store.parts[here], store.parts[there])))
    return links


def linked_sizes(store, links, number):
    """The sizes of a linked term and all within it, or None if one would stand within itself."""
    sizes = {}
    # A number is met twice: before its parts are measured, and behind them.
    tasks = [(followed(links, number), False)]
    while tasks:
        task = tasks.pop()
        here = task[0]
        if not task[1] and here in sizes:
            if sizes[here] == 0:
                return None
            continue
        parts = [followed(links, part) for part in store.parts[here]]
        if task[1]:
            sizes[here] = 1 + sum([sizes[part] for part in parts])
        else:
            sizes[here] = 0
            tasks.append((here, True))
            tasks.extend([(part, False) for part in parts])
    return sizes


def renamed(row, names):
    """The row with its variables numbered as they come, behind those that have names."""
    made = []
    for head, count in row:
        if isinstance(head, int):
            made.append((names.setdefault(head, len(names)), count))
        else:
            made.append((head, count))
    return made

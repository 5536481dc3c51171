"""What terms come to, step after step."""

from termpairs.terms import MOST_SIZE, Store, filled, numbers_of, row_of, written


class Ends:
    """The ends of terms by some rules, within a number of steps."""

    def __init__(self, rules, steps):
        self.steps = steps
        self.known = {}
        self.rules = {}
        for rule in rules:
            self.rules.setdefault(rule.left[0][0], []).append(rule)

    def end_of(self, row):
        """The end of a row's term as it is told, or None if it isn't known."""
        text = written(row)
        # Many pairs come to the same terms.
        if text not in self.known:
            self.known[text] = self.sought_end(row)
        return self.known[text]

    def sought_end(self, row):
        store = Store()
        end = self.end_in_store(store, numbers_of(store, row)[0])
        if end is None:
            return None
        return written(row_of(store, end, {}))

    def end_in_store(self, store, number):
        size = store.sizes[number]
        taken = 0
        ended = {}
        done = []
        # A number is met twice: before its parts are brought to their ends, and behind them.
        tasks = [(number, False)]
        while tasks:
            if size > MOST_SIZE:
                return None
            task = tasks.pop()
            if not task[1]:
                set_down(store, task[0], ended, done, tasks)
                continue
            here = with_ended_parts(store, task[0], done)
            onward = None if here in ended else self.stepped(store, here)
            if onward is None:
                ended[here] = True
                done.append(here)
            elif taken == self.steps:
                return None
            else:
                taken += 1
                size += store.sizes[onward] - store.sizes[here]
                tasks.append((onward, False))
        return done[0]

    def stepped(self, store, number):
        """What the first rule that fits at the top makes of a term, or None."""
        for rule in self.rules.get(store.heads[number], []):
            bound = fitted(store, rule.left, number)
            if bound is not None:
                return filled(store, rule.right, bound)
        return None


def set_down(store, number, ended, done, tasks):
    """Sets down what's to be done for a term: nothing if it is at its end, else its parts from the left, then it."""
    if number in ended:
        done.append(number)
    else:
        tasks.append((number, True))
        tasks.extend([(part, False) for part in store.parts[number][::-1]])


def with_ended_parts(store, number, done):
    """The term with the ends of its parts, which are taken from what is done."""
    parts = [done.pop() for part in store.parts[number]]
    return store.kept(store.heads[number], tuple(parts[::-1]))


def fitted(store, row, number):
    """The numbers of the terms that the row's variables stand for if it fits, or None."""
    bound = {}
    waiting = [number]
    for head, count in row:
        here = waiting.pop()
        if isinstance(head, int):
            if bound.setdefault(head, here) != here:
                return None
        elif store.heads[here] != head:
            return None
        else:
            waiting.extend(store.parts[here][::-1])
    return bound

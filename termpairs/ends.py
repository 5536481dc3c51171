"""What terms come to, step after step."""

from termpairs.terms import MOST_SIZE, Store, moved_terms, row_of, written

# The ends that are kept have no more variables and functions than this in all.
MOST_KEPT = 500000

# A term on its way leaves others behind, which are forgotten when there are more than this.
MOST_STORED = 100000


class Ends:
    """The ends of terms by some rules, within a number of steps."""

    def __init__(self, rules, steps):
        self.steps = steps
        self.known = {}
        self.room = MOST_KEPT
        self.makings = {}
        for rule in rules:
            self.makings.setdefault(rule.left[0][0], []).append(Making(rule))

    def end_of(self, row):
        """The row of the end of a row's term, or None if it isn't known."""
        text = written(row)
        # Many pairs come to the same terms.
        if text in self.known:
            return self.known[text]
        end = self.sought_end(row)
        self.keep(text, end)
        return end

    def keep(self, text, end):
        """Keeps an end as long as there is room: each pair may bring long ones of its own."""
        size = 0 if end is None else len(end)
        if size <= self.room:
            self.room -= size
            self.known[text] = end

    def sought_end(self, row):
        way = Way(row)
        taken = 0
        while way.size <= MOST_SIZE:
            if not way.goes_on(self.makings):
                return row_of(way.store, way.done[0], {})
            if taken == self.steps:
                return None
            taken += 1
        return None


class Making:
    """A rule as a step takes it: the row of its left below the top, and the tasks of its right."""

    def __init__(self, rule):
        self.below = rule.left[1:]
        self.tasks = tasks_of(rule.right)


class Way:
    """A term on its way to its end.

    The store holds terms that are at their ends, and no others. A task is the number
    of such a term, which is done then, or a function and how many terms it takes,
    which are the last ones done by then. The last of the tasks comes first. What is
    done and the tasks make up the whole term, so they are no more than it has signs.
    """

    def __init__(self, row):
        self.store = Store()
        self.size = len(row)
        self.done = []
        bound = {}
        for head, count in row:
            if isinstance(head, int):
                bound[head] = self.store.kept(head, ())
        self.tasks = filled(tasks_of(row), bound)

    def goes_on(self, makings):
        """Takes the next step, or tells that there's none and the whole term is done."""
        tasks = self.tasks
        done = self.done
        numbers = self.store.numbers
        while tasks:
            task = tasks.pop()
            if isinstance(task, int):
                done.append(task)
                continue
            parts = parts_taken(done, task[1])
            number = numbers.get((task[0], parts))
            if number is None:
                if self.steps_at(makings.get(task[0], ()), parts):
                    return True
                number = self.store.added(task[0], parts)
            done.append(number)
        return False

    def steps_at(self, makings, parts):
        """Takes the step of the first rule that fits a function of these parts, if there's one."""
        for making in makings:
            bound = fitted(self.store, making.below, parts)
            if bound is not None:
                self.put(filled(making.tasks, bound), parts)
                return True
        return False

    def put(self, tasks, parts):
        """Puts tasks in the place of a function of these parts."""
        sizes = self.store.sizes
        self.size -= 1 + sum([sizes[part] for part in parts])
        self.size += sum([sizes[task] if isinstance(task, int) else 1 for task in tasks])
        self.tasks.extend(tasks)
        if len(sizes) > MOST_STORED:
            self.forget()

    def forget(self):
        """Leaves behind the terms that no longer stand in this one."""
        store = Store()
        ready = [task for task in self.tasks if isinstance(task, int)]
        moved = moved_terms(self.store, self.done + ready, store)
        self.done = [moved[number] for number in self.done]
        self.tasks = [moved[task] if isinstance(task, int) else task for task in self.tasks]
        self.store = store


def tasks_of(row):
    """A row's variables and functions, the first that is to be done last: each function ahead of its terms."""
    tasks = []
    waiting = []
    missing = []
    for sign in row:
        waiting.append(sign)
        missing.append(sign[1])
        while missing and missing[-1] == 0:
            missing.pop()
            tasks.append(waiting.pop())
            if missing:
                missing[-1] -= 1
    return tasks[::-1]


def filled(tasks, bound):
    """The tasks with the terms of these numbers for the variables."""
    return [bound[task[0]] if isinstance(task[0], int) else task for task in tasks]


def parts_taken(done, count):
    """The last terms done, so many of them, from the left."""
    if count == 0:
        return ()
    if count == 1:
        return (done.pop(),)
    parts = [done.pop() for part in range(count)]
    return tuple(parts[::-1])


def fitted(store, row, parts):
    """The numbers of the terms that the row's variables stand for if it fits these parts, or None."""
    bound = {}
    waiting = list(parts[::-1])
    for head, count in row:
        here = waiting.pop()
        if isinstance(head, int):
            if bound.setdefault(head, here) != here:
                return None
        elif store.heads[here] != head:
            return None
        else:
            waiting.extend(store.parts[here][::-1])
    return bound

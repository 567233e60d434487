"""What the tests share: calls laid as numbers, answers read back, and a slow reference that follows the words.

The reference goes through the ways themselves. A way without end need not be written out: from each
state it is enough to walk until a state comes for the second time. Whatever fails or comes on some way
fails or comes on one that goes round like that, over states of the first.
"""

import itertools

from somewayall.desk import answers

TOP = 9223372036854775807


def graph(m, e=()):
    return [0, len(m), *m, len(e), *e]


def edge(s, t):
    return [1, s, t]


def cut(s, t):
    return [2, s, t]


def mark(s, m):
    return [3, s, m]


def holds(f):
    return [4, len(f), *f]


def shows(s, f):
    return [5, s, len(f), *f]


def far(s, f):
    return [6, s, len(f), *f]


def alike():
    return [7]


def small():
    return [8]


def tells(s, t):
    return [9, s, t]


def told():
    return [10]


def laid(calls):
    return [number for call in calls for number in call]


def split(numbers):
    """The answers, one list for each call."""
    rows = []
    at = 0
    while at < len(numbers):
        rows.append(numbers[at + 1:at + 1 + numbers[at]])
        assert len(rows[-1]) == numbers[at]
        at += 1 + numbers[at]
    return rows


def run(*calls):
    """One answer for each call, each call being a list of numbers."""
    rows = split(answers(laid(calls)))
    assert len(rows) == len(calls), (rows, calls)
    return rows


def last(*calls):
    return run(*calls)[-1]


def listed(row):
    """What is answered where it is how many, then the list."""
    return [len(row), len(row), *row]


def classed(row):
    """What alike answers where these are the classes of the states."""
    return [len(set(row)), len(row), *row]


def laid_graph(m, e=()):
    """What small and told answer of a graph."""
    return [len(m), len(m), *m, len(e), *e]


def call_of(row):
    """The call graph that hands in again what small or told has answered."""
    return [0, *row[1:]]


def row_of(n):
    """The edges along n states: 0 to 1, 1 to 2 .."""
    return [number for s in range(n - 1) for number in (s, s + 1)]


def look(n):
    """Calls that tell all marks and all edges of a graph of n states (and spoil it)."""
    return [mark(s, 0) for s in range(n)] + [cut(s, t) for s in range(n) for t in range(n)]


def state_after(n, *calls):
    """All that there is to tell of the graph of n states behind the calls."""
    return run(*calls, *look(n))[len(calls):]


# ---------------------------------------------------------------- the reference

class NoFormula(Exception):
    pass


def tree_of(numbers):
    if len(numbers) > 64:
        raise NoFormula
    tree, at = tree_at(numbers, 0)
    if at != len(numbers):
        raise NoFormula
    return tree


def whole_tree(numbers):
    """The same without a limit to its length."""
    tree, at = tree_at(numbers, 0)
    assert at == len(numbers), numbers
    return tree


def tree_at(numbers, at):
    if at >= len(numbers) or numbers[at] > 12:
        raise NoFormula
    head = numbers[at]
    if head == 0:
        return (0,), at + 1
    if head == 1:
        if at + 1 >= len(numbers) or numbers[at + 1] > 7:
            raise NoFormula
        return (1, numbers[at + 1]), at + 2
    first, at = tree_at(numbers, at + 1)
    if head not in (3, 4, 11, 12):
        return (head, first), at
    second, at = tree_at(numbers, at)
    return (head, first, second), at


def flat(tree):
    if tree[0] == 1:
        return list(tree)
    return [tree[0]] + [number for part in tree[1:] for number in flat(part)]


class Reference:
    """Answers a call at a time, by the document's words."""

    def __init__(self):
        self.marks = None
        self.edges = set()

    def on(self, s):
        return sorted(t for a, t in self.edges if a == s) or [s]

    def ways(self, s):
        """All ways from s, each up to where a state comes again (without that one)."""
        found = []
        todo = [[s]]
        while todo:
            way = todo.pop()
            for t in self.on(way[-1]):
                if t in way:
                    found.append(way)
                else:
                    todo.append(way + [t])
        return found

    def where(self, tree):
        n = len(self.marks)
        head = tree[0]
        if head == 0:
            return set(range(n))
        if head == 1:
            return {s for s in range(n) if self.marks[s] // 2 ** tree[1] % 2 == 1}
        sets = [self.where(part) for part in tree[1:]]
        f, h = sets[0], sets[-1]
        if head == 2:
            return set(range(n)) - f
        if head == 3:
            return f & h
        if head == 4:
            return f | h
        if head in (5, 6):
            kind = any if head == 5 else all
            return {s for s in range(n) if kind(t in f for t in self.on(s))}
        kind = any if head in (7, 9, 11) else all
        if head in (7, 8):
            good = lambda way: all(t in f for t in way)
        elif head in (9, 10):
            good = lambda way: any(t in f for t in way)
        else:
            good = lambda way: any(way[k] in h and all(t in f for t in way[:k]) for k in range(len(way)))
        return {s for s in range(n) if kind(good(way) for way in self.ways(s))}

    def shown(self, s, tree):
        behind = [self.where(part) for part in tree[1:]]
        if tree[0] == 5:
            return [s, min(t for t in self.on(s) if t in behind[0])]
        if tree[0] == 7:
            way = [s]
            while way[-1] not in way[:-1]:
                way.append(min(t for t in self.on(way[-1]) if t in self.where(tree)))
            return way
        over = set(range(len(self.marks))) if tree[0] == 9 else behind[0]
        rows = [[s]]
        while True:
            for way in sorted(rows):
                if way[-1] in behind[-1]:
                    return way
            rows = [way + [t] for way in rows if way[-1] in over for t in self.on(way[-1])]

    def answer(self, call):
        if call[0] == 0:
            m = call[2:2 + call[1]]
            e = call[3 + call[1]:]
            n = len(m)
            if not 1 <= n <= 12 or any(x > 255 for x in m) or any(x >= n for x in e) or len(e) % 2:
                return [-1]
            self.marks = list(m)
            self.edges = set(zip(e[::2], e[1::2]))
            return [n]
        if self.marks is None:
            return [-9]
        n = len(self.marks)
        if call[0] in (1, 2):
            s, t = call[1:]
            if s >= n or t >= n:
                return [-4]
            if ((s, t) in self.edges) == (call[0] == 1):
                return [-3]
            self.edges ^= {(s, t)}
            return [0]
        if call[0] == 3:
            s, m = call[1:]
            if s >= n:
                return [-4]
            if m > 255:
                return [-1]
            before = self.marks[s]
            self.marks[s] = m
            return [before]
        if call[0] in (4, 5, 6):
            return self.answer_formula(call, n)
        if call[0] == 7:
            return classed(self.classes())
        if call[0] == 8:
            return laid_graph(*self.of_classes())
        if call[0] == 9:
            return self.answer_tells(call[1], call[2], n)
        return laid_graph(self.marks, [number for pair in sorted(self.edges) for number in pair])

    def answer_formula(self, call, n):
        f = call[2:] if call[0] == 4 else call[3:]
        if call[0] != 4 and call[1] >= n:
            return [-4]
        try:
            tree = tree_of(f)
        except NoFormula:
            return [-1]
        where = self.where(tree)
        if call[0] == 4:
            return listed(sorted(where))
        if call[0] == 6:
            return [self.steps(call[1], where)]
        if call[1] not in where:
            return [-5]
        if tree[0] not in (5, 7, 9, 11):
            return [-3]
        return listed(self.shown(call[1], tree))

    def steps(self, s, where):
        there = {s}
        for count in range(len(self.marks)):
            if there & where:
                return count
            there = {u for t in there for u in self.on(t)}
        return -5

    def parted(self):
        """Of each two states that are not alike the round that parts them first."""
        states = range(len(self.marks))
        first = {(s, t): 0 for s in states for t in states if self.marks[s] != self.marks[t]}
        for number in itertools.count(1):
            # One goes on to a class to which the other goes on to none: all these were parted in a round before.
            new = [(s, t) for s in states for t in states if (s, t) not in first
                   and (any(all((u, v) in first for v in self.on(t)) for u in self.on(s))
                        or any(all((u, v) in first for v in self.on(s)) for u in self.on(t)))]
            if not new:
                return first
            first.update({pair: number for pair in new})

    def classes(self):
        first = self.parted()
        return [min(t for t in range(s + 1) if (s, t) not in first) for s in range(len(self.marks))]

    def of_classes(self):
        classes = self.classes()
        order = sorted(set(classes))
        pairs = {(classes[s], classes[t]) for s in range(len(classes)) for t in self.on(s)}
        return ([self.marks[s] for s in order],
                [number for s, t in sorted(pairs) for number in (order.index(s), order.index(t))])

    def told_by(self, first, s, t):
        """What tells s from t: how it begins, and of which two states what is joined behind that."""
        if first[s, t] == 0:
            mark = min(m for m in range(8) if (self.marks[s] ^ self.marks[t]) >> m & 1)
            return [1, mark] if self.marks[s] >> mark & 1 else [2, 1, mark], []
        before = {pair for pair in first if first[pair] < first[s, t]}
        for head, a, b in (([5], s, t), ([2, 5], t, s)):
            for u in self.on(a):
                if all((u, v) in before for v in self.on(b)):
                    return head, [(u, v) for v in self.on(b)]

    def told_length(self, first, s, t, known):
        if (s, t) not in known:
            head, pairs = self.told_by(first, s, t)
            lengths = [self.told_length(first, u, v, known) for u, v in pairs]
            known[s, t] = len(head) + max(len(pairs) - 1, 0) + sum(lengths)
        return known[s, t]

    def told_list(self, first, s, t):
        head, pairs = self.told_by(first, s, t)
        lists = [self.told_list(first, u, v) for u, v in pairs]
        while len(lists) > 1:
            lists[-2:] = [[3] + lists[-2] + lists[-1]]
        return head + (lists[0] if lists else [])

    def answer_tells(self, s, t, n):
        if s >= n or t >= n:
            return [-4]
        first = self.parted()
        if (s, t) not in first:
            return [-5]
        if self.told_length(first, s, t, {}) > 400:
            return [-6]
        return listed(self.told_list(first, s, t))


def expected(*calls):
    reference = Reference()
    return [reference.answer(call) for call in calls]


def all_edge_sets(n):
    """The edges of every graph of n states, each laid as numbers."""
    pairs = list(itertools.product(range(n), repeat=2))
    for chosen in itertools.product((False, True), repeat=len(pairs)):
        yield [number for pair, there in zip(pairs, chosen) if there for number in pair]


def some_graph(source, most=6):
    """Marks and edges of a graph in which, now and then, some are alike: they stand for states of a lesser one."""
    n = source.randrange(1, most + 1)
    lesser = source.randrange(1, n + 1)
    marks = [source.randrange(4) for k in range(lesser)]
    leads = [source.sample(range(lesser), source.randrange(min(lesser, 3) + 1)) for k in range(lesser)]
    stands = list(range(lesser)) + [source.randrange(lesser) for k in range(n - lesser)]
    source.shuffle(stands)
    edges = []
    for s, k in enumerate(stands):
        # One stays where there is no edge: that comes to the same as edges to alike ones alone.
        for goal in source.choice(([], [k])) if leads[k] in ([], [k]) else leads[k]:
            among = [t for t in range(n) if stands[t] == goal]
            for t in source.sample(among, source.randrange(1, len(among) + 1)):
                edges += [s, t]
    return [marks[k] for k in stands], edges


def some_tree(source, depth, marks=2):
    """A formula of about that depth, from a source of numbers that is the same every time."""
    head = source.choice((0, 1, 1, 1)) if depth == 0 else source.randrange(1, 13)
    if head == 0:
        return (0,)
    if head == 1:
        return (1, source.randrange(marks))
    if head in (3, 4, 11, 12):
        return (head, some_tree(source, depth - 1, marks), some_tree(source, depth - 1, marks))
    return (head, some_tree(source, depth - 1, marks))

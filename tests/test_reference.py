"""Long mixed lines, held against a plain account of the document's words.

The account knows no machines and no marks: it writes out the cases of a process up to
some length, asks rules of whole rows, and tries moves one after another.
"""

import functools
import itertools
import random
import unittest

from movedcases.house import answers
from tests import helper

LONGEST = 11
MOST_OWED = 6


def read(told):
    """A process in numbers as a nested tuple."""
    def at(place):
        if told[place] == 0:
            return (0, told[place + 1]), place + 2
        if told[place] == 1:
            return (1,), place + 1
        first, place_behind = at(place + 1)
        second, end = at(place_behind)
        return (told[place], first, second), end
    return at(0)[0]


def shuffles(first, second):
    for spots in itertools.combinations(range(len(first) + len(second)), len(first)):
        left, right = iter(first), iter(second)
        yield tuple(next(left) if spot in spots else next(right) for spot in range(len(first) + len(second)))


@functools.lru_cache(maxsize=None)
def cases_of(tree, longest):
    """All cases of at most this length."""
    if tree[0] == 0:
        return frozenset({(tree[1],)} if longest >= 1 else ())
    if tree[0] == 1:
        return frozenset({()})
    first, second = cases_of(tree[1], longest), cases_of(tree[2], longest)
    if tree[0] == 3:
        return first | second
    if tree[0] == 5:
        found, fresh = set(first), set(first)
        while fresh:
            fresh = {a + b + c for a in fresh for b in second for c in first if len(a + b + c) <= longest} - found
            found |= fresh
        return frozenset(found)
    pairs = [(a, b) for a in first for b in second if len(a + b) <= longest]
    if tree[0] == 2:
        return frozenset(a + b for a, b in pairs)
    return frozenset(c for a, b in pairs for c in shuffles(a, b))


@functools.lru_cache(maxsize=None)
def ways_on(tree):
    """For each beginning of a case all ways on from it, the shorter first."""
    found = {}
    for case in cases_of(tree, LONGEST):
        for place in range(len(case) + 1):
            found.setdefault(case[:place], []).append(case[place:])
    return {beginning: sorted(ways, key=len) for beginning, ways in found.items()}


def keeps(rule, row):
    """The rule's own words, asked of a whole row."""
    kind, a = rule[:2]
    b = rule[-1]
    at_a = [place for place, step in enumerate(row) if step == a]
    at_b = [place for place, step in enumerate(row) if step == b]
    return (
        lambda: len(at_a) >= rule[2],
        lambda: len(at_a) <= rule[2],
        lambda: row[:1] == (a,),
        lambda: row[-1:] == (a,),
        lambda: all(any(later > place for later in at_b) for place in at_a),
        lambda: all(any(earlier < place for earlier in at_a) for place in at_b),
        lambda: all(row[place + 1:place + 2] == (b,) for place in at_a),
        lambda: not (at_a and at_b),
        lambda: all(any(p < place < q for place in at_b) for p, q in zip(at_a, at_a[1:])),
    )[kind]()


class PlainHouse:
    def __init__(self):
        self.trees = [(1,)]
        self.rules = []
        self.prices = [[1] * 6, [1] * 6]
        self.cases = []

    def keeps_all(self, row):
        return all(keeps(rule, row) for rule in self.rules)

    def can_keep(self, number, stands, owed, done):
        ways = ways_on(self.trees[number]).get(stands, [])
        return any(self.keeps_all(done + owed + way) for way in ways)

    def process(self, told):
        self.trees.append(read(told))
        return [len(self.trees) - 1]

    def rule(self, *told):
        self.rules.append(told)
        return [len(self.rules) - 1, len([case for case in self.cases if not self.can_keep(*case)])]

    def price(self, kind, step, cost):
        self.prices[kind][step] = cost
        return [0]

    def begin(self):
        self.cases.append((len(self.trees) - 1, (), (), ()))
        return [len(self.cases) - 1]

    def do(self, which, step):
        number, stands, owed, done = self.cases[which]
        if owed:
            if owed[0] != step:
                return [-5]
            owed = owed[1:]
        else:
            stands += (step,)
            if stands not in ways_on(self.trees[number]):
                return [-5]
        if len(done) == 5:
            return [-7]
        done += (step,)
        self.cases[which] = (number, stands, owed, done)
        through = not owed and stands in cases_of(self.trees[number], LONGEST) and self.keeps_all(done)
        return [len(done), int(self.can_keep(*self.cases[which])), int(through)]

    def move(self, which):
        number, done = self.cases[which][0], self.cases[which][3]
        if number == len(self.trees) - 1:
            return [-3]
        best = min(self.ways_over(done), default=None)
        if best is None:
            return [-6]
        stands = tuple(step for kind, step in best[2] if kind != 1)
        owed = tuple(step for kind, step in best[2] if kind == 2)
        self.cases[which] = (len(self.trees) - 1, stands, owed, done)
        return [best[0], *owed]

    def ways_over(self, done):
        """All that take it over and owe few steps, each with what it costs and how many moves it has."""
        newest = len(self.trees) - 1
        beginnings = ways_on(self.trees[newest])
        waiting = [((), 0, (), ())]
        while waiting:
            moves, at, stands, owed = waiting.pop()
            if at == len(done) and self.can_keep(newest, stands, owed, done):
                cost = sum(self.prices[kind - 1][step] for kind, step in moves if kind)
                yield cost, len(moves), moves
            if at < len(done):
                waiting.append((moves + ((1, done[at]),), at + 1, stands, owed))
                if stands + (done[at],) in beginnings:
                    waiting.append((moves + ((0, done[at]),), at + 1, stands + (done[at],), owed))
            # What's owed last does no more than a way on, and costs: so only ahead of another step.
            for step in range(6) if at < len(done) and len(owed) < MOST_OWED else ():
                if stands + (step,) in beginnings:
                    waiting.append((moves + ((2, step),), at, stands + (step,), owed + (step,)))


def some_process(chance, leaves, steps):
    if leaves == 1:
        return [0, chance.randrange(steps)] if chance.random() < 0.85 else [1]
    left = chance.randrange(1, leaves)
    while True:
        kind = chance.choice((2, 2, 3, 4, 5))
        first = some_process(chance, left, steps)
        if kind != 5 or () not in cases_of(read(first), 0):
            return [kind] + first + some_process(chance, leaves - left, steps)


def some_rule(chance, steps):
    kind = chance.randrange(9)
    a, b = chance.sample(range(min(steps, 5)), 2)
    if kind < 2:
        return [kind, a, chance.randrange(3)]
    return [kind, a] if kind < 4 else [kind, a, b]


def some_step(chance, plain, which, steps):
    """Mostly a step that may be done next, for else most lines come to nothing."""
    number, stands, owed, done = plain.cases[which]
    if owed:
        fit = list(owed[:1])
    else:
        fit = [step for step in range(steps) if stands + (step,) in ways_on(plain.trees[number])]
    return chance.choice(fit) if fit and chance.random() < 0.9 else chance.randrange(steps)


class SomeLine:
    """A line as it grows, with what the account answers to it."""

    def __init__(self, chance, most_leaves):
        self.chance = chance
        self.most_leaves = most_leaves
        self.steps = chance.choice((2, 3, 3, 4, 6))
        self.plain = PlainHouse()
        self.calls = []
        self.found = []

    def call(self, name, *handed):
        self.calls.append(helper.OPEN if name == "begin" else getattr(helper, name)(*handed))
        self.found.append(getattr(self.plain, name)(*handed))

    def tell(self):
        self.call("process", some_process(self.chance, self.chance.randint(1, self.most_leaves), self.steps))

    def rule(self):
        self.call("rule", *some_rule(self.chance, self.steps))

    def do(self, count):
        for place in range(count):
            which = self.chance.randrange(2)
            self.call("do", which, some_step(self.chance, self.plain, which, self.steps))

    def move(self):
        dear = self.chance.choice((1, 4, 9))
        for step in self.chance.sample(range(self.steps), min(self.steps, 3)):
            self.call("price", 0, step, self.chance.randint(1, dear))
            self.call("price", 1, step, self.chance.randint(1, 3))
        self.tell()
        self.call("move", 0)
        self.call("move", 1)


def some_line(chance, most_leaves):
    made = SomeLine(chance, most_leaves)
    late = chance.randrange(5)
    made.tell()
    for name in ("begin", "begin"):
        made.call(name)
    made.do(6)
    for part in range(5):
        if part == late or (part == 0 and chance.random() < 0.5):
            made.rule()
        if part in (1, 3):
            made.move()
        if part in (2, 4):
            made.do(4)
    return made


class Reference(unittest.TestCase):
    def check(self, seed, most_leaves):
        made = some_line(random.Random(seed), most_leaves)
        given = helper.taken_apart(answers(helper.line(*made.calls)))
        for call, mine, plain in zip(made.calls, given, made.found, strict=True):
            self.assertEqual(mine, plain, (seed, call, made.calls))

    def test_lines_of_small_processes(self):
        for seed in range(300):
            with self.subTest(seed=seed):
                self.check(seed, 3)

    def test_lines_of_larger_processes(self):
        for seed in range(1000, 1040):
            with self.subTest(seed=seed):
                self.check(seed, 4)


if __name__ == "__main__":
    unittest.main()

"""Long mixed lines, held against a plain account of the document's words.

The account knows no machines and no marks: it writes out the cases of a process up to
some length, asks rules of whole rows, and tries moves one after another. To tell of a
moment, it does in a new house what had been done by then, and nothing else.
"""

import functools
import itertools
import random
import unittest

from movedcases.house import answers
from tests import helper

LONGEST = 11
MOST_OWED = 6
DOING = ("process", "rule", "price", "begin", "do", "move")


def read(told):
    """A process in numbers as a nested tuple, or None if it isn't just a process."""
    def at(place):
        if told[place] == 0:
            return (0, (0, 1, 2, 3, 4, 5)[told[place + 1]]), place + 2
        if told[place] == 1:
            return (1,), place + 1
        first, place_behind = at(place + 1)
        second, end = at(place_behind)
        kind = (2, 3, 4, 5)[told[place] - 2]
        if kind == 5 and () in cases_of(first, 0):
            raise IndexError
        return (kind, first, second), end
    try:
        tree, end = at(0)
    except IndexError:
        return None
    return tree if end == len(told) and parts(tree) <= 9 else None


def parts(tree):
    return 1 + sum(parts(part) for part in tree[1:] if isinstance(part, tuple))


def is_rule(told):
    """Whether it's one of all rules there are."""
    steps = range(5)
    counts = [(kind, a, n) for kind in (0, 1) for a in steps for n in range(4)]
    ends = [(kind, a) for kind in (2, 3) for a in steps]
    pairs = [(kind, a, b) for kind in (4, 5, 6, 7, 8) for a in steps for b in steps if a != b]
    return tuple(told) in counts + ends + pairs


def shuffles(first, second):
    for spots in itertools.combinations(range(len(first) + len(second)), len(first)):
        left, right = iter(first), iter(second)
        yield tuple(next(left) if spot in spots else next(right) for spot in range(len(first) + len(second)))


@functools.lru_cache(maxsize=None)
def cases_of(tree, longest):
    """All cases of at most this length."""
    if tree[0] == 0:
        return frozenset({(tree[1],)} if longest >= 1 else ())
    if tree[0] == 1:
        return frozenset({()})
    first, second = cases_of(tree[1], longest), cases_of(tree[2], longest)
    if tree[0] == 3:
        return first | second
    if tree[0] == 5:
        found, fresh = set(first), set(first)
        while fresh:
            fresh = {a + b + c for a in fresh for b in second for c in first if len(a + b + c) <= longest} - found
            found |= fresh
        return frozenset(found)
    pairs = [(a, b) for a in first for b in second if len(a + b) <= longest]
    if tree[0] == 2:
        return frozenset(a + b for a, b in pairs)
    return frozenset(c for a, b in pairs for c in shuffles(a, b))


@functools.lru_cache(maxsize=None)
def ways_on(tree):
    """For each beginning of a case all ways on from it, the shorter first."""
    found = {}
    for case in cases_of(tree, LONGEST):
        for place in range(len(case) + 1):
            found.setdefault(case[:place], []).append(case[place:])
    return {beginning: sorted(ways, key=len) for beginning, ways in found.items()}


def keeps(rule, row):
    """The rule's own words, asked of a whole row."""
    kind, a = rule[:2]
    b = rule[-1]
    at_a = [place for place, step in enumerate(row) if step == a]
    at_b = [place for place, step in enumerate(row) if step == b]
    return (
        lambda: len(at_a) >= rule[2],
        lambda: len(at_a) <= rule[2],
        lambda: row[:1] == (a,),
        lambda: row[-1:] == (a,),
        lambda: all(any(later > place for later in at_b) for place in at_a),
        lambda: all(any(earlier < place for earlier in at_a) for place in at_b),
        lambda: all(row[place + 1:place + 2] == (b,) for place in at_a),
        lambda: not (at_a and at_b),
        lambda: all(any(p < place < q for place in at_b) for p, q in zip(at_a, at_a[1:])),
    )[kind]()


class PlainHouse:
    def __init__(self):
        self.trees = [(1,)]
        self.rules = []
        self.prices = [[1] * 6, [1] * 6]
        self.cases = []
        self.done_calls = []

    def call(self, name, *handed):
        answered = getattr(self, name)(*handed)
        if name in DOING and answered[0] >= 0:
            self.done_calls.append((name, handed))
        return answered

    def then(self, time):
        house = PlainHouse()
        for name, handed in self.done_calls[:time]:
            house.call(name, *handed)
        return house

    def keeps_all(self, row):
        return all(keeps(rule, row) for rule in self.rules)

    def ways_that_keep(self, number, stands, owed, done):
        """The ways on by which all rules are kept."""
        return (way for way in ways_on(self.trees[number]).get(stands, []) if self.keeps_all(done + owed + way))

    def can_keep(self, *case):
        return any(True for way in self.ways_that_keep(*case))

    def is_through(self, number, stands, owed, done):
        return not owed and () in ways_on(self.trees[number])[stands] and self.keeps_all(done)

    def after(self, step, number, stands, owed, done):
        """The case with the step done, or None if it may not be done next."""
        if owed:
            return (number, stands, owed[1:], done + (step,)) if owed[0] == step else None
        if stands + (step,) not in ways_on(self.trees[number]):
            return None
        return number, stands + (step,), (), done + (step,)

    def refusal(self, *reasons):
        """Of several the one told first: pairs of a number, and whether it's so (asked only if need be)."""
        return next(([number] for number, is_so in reasons if is_so()), None)

    def worn_out(self):
        return len(self.done_calls) == 40

    def process(self, told):
        tree = read(told)
        refused = self.refusal((-1, lambda: tree is None), (-8, self.worn_out), (-7, lambda: len(self.trees) == 4))
        if refused:
            return refused
        self.trees.append(tree)
        return [len(self.trees) - 1]

    def rule(self, *told):
        refused = self.refusal(
            (-1, lambda: not is_rule(told)), (-8, self.worn_out), (-7, lambda: len(self.rules) == 2))
        if refused:
            return refused
        self.rules.append(told)
        return [len(self.rules) - 1, self.lost()[0]]

    def price(self, kind, step, cost):
        wrong = kind not in (0, 1) or step not in range(6) or cost not in range(1, 101)
        refused = self.refusal((-1, lambda: wrong), (-8, self.worn_out))
        if refused:
            return refused
        self.prices[kind][step] = cost
        return [0]

    def begin(self):
        refused = self.refusal((-8, self.worn_out), (-7, lambda: len(self.cases) == 3))
        if refused:
            return refused
        self.cases.append((len(self.trees) - 1, (), (), ()))
        return [len(self.cases) - 1]

    def no_case(self, which):
        return -2, lambda: which not in range(len(self.cases))

    def do(self, which, step):
        refused = self.refusal(
            (-8, self.worn_out), self.no_case(which),
            (-5, lambda: self.after(step, *self.cases[which]) is None), (-7, lambda: len(self.cases[which][3]) == 5))
        if refused:
            return refused
        self.cases[which] = self.after(step, *self.cases[which])
        case = self.cases[which]
        return [len(case[3]), int(self.can_keep(*case)), int(self.is_through(*case))]

    def move(self, which):
        refused = self.refusal(
            (-8, self.worn_out), self.no_case(which), (-3, lambda: self.cases[which][0] == len(self.trees) - 1))
        if refused:
            return refused
        done = self.cases[which][3]
        best = min(self.ways_over(done), default=None)
        if best is None:
            return [-6]
        stands = tuple(step for kind, step in best[2] if kind != 1)
        owed = tuple(step for kind, step in best[2] if kind == 2)
        self.cases[which] = (len(self.trees) - 1, stands, owed, done)
        return [best[0], *owed]

    def asked(self, time, which, tell):
        if time > len(self.done_calls):
            return [-4]
        house = self.then(time)
        return house.refusal(house.no_case(which)) or tell(house, house.cases[which])

    def case(self, time, which):
        return self.asked(time, which, lambda house, case: [
            case[0], len(case[1]), *case[1], len(case[2]), *case[2], len(case[3]), *case[3]])

    def allowed(self, time, which):
        def tell(house, case):
            behind = [(step, house.after(step, *case)) for step in range(6)]
            return [int(house.is_through(*case)), *(step for step, after in behind if after and house.can_keep(*after))]
        return self.asked(time, which, tell)

    def finish(self, time, which):
        def tell(house, case):
            way = min(house.ways_that_keep(*case), key=lambda way: (len(way), way), default=None)
            return [-6] if way is None else [len(case[2] + way), *case[2], *way]
        return self.asked(time, which, tell)

    def over(self, which):
        refused = self.refusal(self.no_case(which))
        if refused:
            return refused
        best = min(self.ways_over(self.cases[which][3]), default=None)
        return [-6] if best is None else [best[0], *itertools.chain(*best[2])]

    def lost(self):
        found = [which for which, case in enumerate(self.cases) if not self.can_keep(*case)]
        return [len(found), *found]

    def moment(self):
        return [len(self.done_calls)]

    def ways_over(self, done):
        """All that take it over and owe few steps, each with what it costs and how many moves it has."""
        newest = len(self.trees) - 1
        beginnings = ways_on(self.trees[newest])
        waiting = [((), 0, (), ())]
        while waiting:
            moves, at, stands, owed = waiting.pop()
            if at == len(done) and self.can_keep(newest, stands, owed, done):
                cost = sum(self.prices[kind - 1][step] for kind, step in moves if kind)
                yield cost, len(moves), moves
            if at < len(done):
                waiting.append((moves + ((1, done[at]),), at + 1, stands, owed))
                if stands + (done[at],) in beginnings:
                    waiting.append((moves + ((0, done[at]),), at + 1, stands + (done[at],), owed))
            # What's owed last does no more than a way on, and costs: so only ahead of another step.
            for step in range(6) if at < len(done) and len(owed) < MOST_OWED else ():
                if stands + (step,) in beginnings:
                    waiting.append((moves + ((2, step),), at, stands + (step,), owed + (step,)))


def some_process(chance, leaves, steps):
    if leaves == 1:
        return [0, chance.randrange(steps)] if chance.random() < 0.85 else [1]
    left = chance.randrange(1, leaves)
    while True:
        kind = chance.choice((2, 2, 3, 4, 5))
        first = some_process(chance, left, steps)
        if kind != 5 or () not in cases_of(read(first), 0):
            return [kind] + first + some_process(chance, leaves - left, steps)


def some_rule(chance, steps):
    kind = chance.randrange(9)
    a, b = chance.sample(range(min(steps, 5)), 2)
    if kind < 2:
        return [kind, a, chance.randrange(3)]
    return [kind, a] if kind < 4 else [kind, a, b]


def some_step(chance, plain, which, steps):
    """Mostly a step that may be done next, for else most lines come to nothing."""
    number, stands, owed, done = plain.cases[which]
    if owed:
        fit = list(owed[:1])
    else:
        fit = [step for step in range(steps) if stands + (step,) in ways_on(plain.trees[number])]
    return chance.choice(fit) if fit and chance.random() < 0.9 else chance.randrange(steps)


class SomeLine:
    """A line as it grows, with what the account answers to it."""

    CONSTANT = {"begin": helper.OPEN, "lost": helper.LOST_CASES, "moment": helper.MOMENT}

    def __init__(self, chance, most_leaves):
        self.chance = chance
        self.most_leaves = most_leaves
        self.steps = chance.choice((2, 3, 3, 4, 6))
        self.plain = PlainHouse()
        self.calls = []
        self.found = []

    def call(self, name, *handed):
        self.calls.append(self.CONSTANT[name] if name in self.CONSTANT else getattr(helper, name)(*handed))
        self.found.append(self.plain.call(name, *handed))

    def spoilt(self, told):
        """Now and then the same, but with a number more, less or changed."""
        told = list(told)
        if self.chance.random() < 0.9:
            return told
        place = self.chance.randrange(len(told))
        more = [self.chance.choice((0, 1, 2, 5, 6, 9, 4294967295)) for count in range(self.chance.randrange(2))]
        return told[:place] + more + told[place + self.chance.randrange(2):]

    def which(self):
        """Mostly a case that there is."""
        return self.chance.randrange(len(self.plain.cases) + (self.chance.random() < 0.1) or 1)

    def time(self):
        """Mostly a moment that there was, and oftener a late one: there are more cases by then."""
        now = len(self.plain.done_calls)
        return max(self.chance.randrange(now + 1 + (self.chance.random() < 0.1)) for count in range(2))

    def tell(self):
        told = some_process(self.chance, self.chance.randint(1, self.most_leaves), self.steps)
        self.call("process", self.spoilt(told))

    def rule(self):
        self.call("rule", *self.spoilt(some_rule(self.chance, self.steps)))

    def price(self):
        # Mostly dearer as lost than as owed, for else hardly anything would be owed.
        told = self.chance.choice(((0, self.chance.randint(2, 6)), (1, self.chance.randint(1, 2))))
        told = (told[0], self.chance.randrange(self.steps), told[1])
        spoilt = self.spoilt(told)
        self.call("price", *(spoilt if len(spoilt) == 3 else told))

    def do(self):
        which = self.which()
        if which < len(self.plain.cases):
            self.call("do", which, some_step(self.chance, self.plain, which, self.steps))
        else:
            self.call("do", which, 0)

    def ask(self, name):
        self.call(name, self.time(), self.which())

    def over_or_move(self, name):
        which = self.which()
        newest = len(self.plain.trees) - 1
        # Mostly to a process told anew, for else there'd be little to move.
        if newest < 3 and self.chance.random() < 0.7:
            if which < len(self.plain.cases) and self.plain.cases[which][0] == newest:
                self.tell()
        self.call(name, which)

    def add(self, name):
        """One more call of that name."""
        if name in ("case", "allowed", "finish"):
            self.ask(name)
        elif name in ("move", "over"):
            self.over_or_move(name)
        elif name in self.CONSTANT:
            self.call(name)
        else:
            {"process": self.tell, "rule": self.rule, "price": self.price, "do": self.do}[name]()


def some_line(chance, most_leaves, length):
    """All twelve calls in any order, but a process and a case first, and no more of them than may be asked."""
    made = SomeLine(chance, most_leaves)
    made.tell()
    made.call("begin")
    for count in range(chance.randrange(6)):
        made.price()
    left = {("move", "over"): 5, ("rule", "do", "allowed", "finish", "lost"): 16, ("case", "allowed", "finish"): 8}
    often = {"process": 1, "rule": 2, "price": 4, "begin": 2, "do": 20, "move": 5, "case": 2, "allowed": 3, "finish": 4,
             "over": 3, "lost": 2, "moment": 1}
    # One short of it, for ahead of a move a process may come.
    while len(made.calls) < length - 1:
        names = [name for name in often if all(count > 0 for some, count in left.items() if name in some)]
        name = chance.choices(names, [often[name] for name in names])[0]
        for some in left:
            left[some] -= name in some
        made.add(name)
    return made


class Reference(unittest.TestCase):
    def check(self, seed, most_leaves, length):
        made = some_line(random.Random(seed), most_leaves, length)
        given = helper.taken_apart(answers(helper.line(*made.calls)))
        for call, mine, plain in zip(made.calls, given, made.found, strict=True):
            self.assertEqual(mine, plain, (seed, call, made.calls))
        return made

    def test_lines_of_small_processes(self):
        for seed in range(300):
            with self.subTest(seed=seed):
                self.check(seed, 3, 30)

    def test_lines_of_larger_processes(self):
        for seed in range(1000, 1060):
            with self.subTest(seed=seed):
                self.check(seed, 4, 30)

    def test_lines_of_sixty_calls(self):
        for seed in range(2000, 2040):
            with self.subTest(seed=seed):
                self.check(seed, 3, 60)

    def test_there_is_enough_of_everything_in_them(self):
        """Each call is answered in these lines, and each of its refusals comes."""
        found = {}
        for seed in range(300):
            made = some_line(random.Random(seed), 3, 30)
            for call, answered in zip(made.calls, made.found):
                found.setdefault(call[0], set()).add(min(answered[0], 0))
        expected = ({-1, -7}, {-1, -7}, {-1}, {-7}, {-2, -5, -7}, {-2, -3, -6}, {-2, -4}, {-2, -4}, {-2, -4, -6},
                    {-2, -6}, set(), set())
        self.assertEqual([found[number] for number in range(12)], [numbers | {0} for numbers in expected])


if __name__ == "__main__":
    unittest.main()

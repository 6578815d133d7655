"""Ways on, by which all rules are kept, and the way over to another process."""

from movedcases.machines import places_behind
from movedcases.rules import are_kept_at, marks_after, marks_behind

COUNTS = 0
LOST = 1
OWED = 2


def is_kept_end(machine, rules, spot):
    """Whether a case may end at the spot, a pair of a place and marks, with all rules kept."""
    return machine.ends[spot[0]] and are_kept_at(rules, spot[1])


def spots_behind(machine, rules, spot):
    """Pairs of a step and the spot behind it."""
    return [(step, (place, marks_after(rules, spot[1], step))) for step, place in machine.ways[spot[0]]]


def spots_at(machine, rules, stands, row):
    """The spots of a case that stands there, with the marks behind the row."""
    marks = marks_behind(rules, row)
    return [(place, marks) for place in places_behind(machine, stands)]


def reaches_kept_end(machine, rules, spots, passed):
    """Whether from one of the spots an end is reached at which all rules are kept.

    Spots in passed aren't gone through again; all that are gone through come into it.
    So after a no they may be left out for good, and after a yes passed is of no use.
    """
    waiting = list(spots)
    while len(waiting) > 0:
        spot = waiting.pop()
        if spot in passed:
            continue
        passed[spot] = True
        if is_kept_end(machine, rules, spot):
            return True
        for step, behind in spots_behind(machine, rules, spot):
            waiting.append(behind)
    return False


def can_be_kept(machine, rules, stands, row):
    """Whether some way on from where it stands, put behind the row, keeps all rules."""
    return reaches_kept_end(machine, rules, spots_at(machine, rules, stands, row), {})


def earliest_way_on(machine, rules, stands, row):
    """The earliest way on from where it stands that, put behind the row, keeps all rules; None if there's none."""
    # All in waiting are as long as one another, the lower ones first: so the first to come to a spot,
    # or to an end, is the earliest.
    waiting = [((), spot) for spot in spots_at(machine, rules, stands, row)]
    passed = {}
    while len(waiting) > 0:
        longer = []
        for steps, spot in waiting:
            if spot in passed:
                continue
            passed[spot] = True
            if is_kept_end(machine, rules, spot):
                return list(steps)
            for step, behind in spots_behind(machine, rules, spot):
                longer.append((steps + (step,), behind))
        waiting = sorted(longer)
    return None


def put_in(waiting, entry):
    """Puts the entry where it belongs in a list that falls, so that the least is the last."""
    low = 0
    high = len(waiting)
    while low < high:
        middle = (low + high) // 2
        if waiting[middle] > entry:
            low = middle + 1
        else:
            high = middle
    waiting.insert(low, entry)


def moves_from(machine, rules, done, spot):
    """Each move that may come next at the spot, with the spot behind it.

    A spot: how many of the steps done have been dealt with, the place, and the marks
    behind all that was done and what's owed so far.
    """
    at = spot[0]
    marks = spot[2]
    found = []
    if at < len(done):
        found.append(((LOST, done[at]), (at + 1, spot[1], marks)))
    for step, place in machine.ways[spot[1]]:
        if at < len(done) and done[at] == step:
            found.append(((COUNTS, step), (at + 1, place, marks)))
        found.append(((OWED, step), (at, place, marks_after(rules, marks, step))))
    return found


def price_of(move, prices):
    """What the move costs; prices are those of lost steps, then those of owed ones."""
    if move[0] == COUNTS:
        return 0
    return prices[0][move[1]] if move[0] == LOST else prices[1][move[1]]


def way_over(machine, rules, prices, done):
    """What the way over to the machine's process costs, and its moves; None if there's none."""
    # Entries are in the very order that's asked: cost, how many moves, the moves.
    # A move put behind two entries keeps their order, so the first to come to a spot is the best there.
    waiting = [(0, 0, (), (0, 0, marks_behind(rules, done)))]
    settled = {}
    passed = {}
    while len(waiting) > 0:
        entry = waiting.pop()
        spot = entry[3]
        if spot in settled:
            continue
        settled[spot] = True
        if spot[0] == len(done) and reaches_kept_end(machine, rules, [(spot[1], spot[2])], passed):
            return (entry[0], entry[2])
        for move, behind in moves_from(machine, rules, done, spot):
            if behind not in settled:
                put_in(waiting, (entry[0] + price_of(move, prices), entry[1] + 1, entry[2] + (move,), behind))
    return None

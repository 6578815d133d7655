"""Processes: how they are read from numbers, and how one goes along their cases.

A process is held as a machine of numbered places. It begins at place 0; from each
place some steps lead on to places; at some places a case may end. Every process has
a case, and so from every place an end can be reached: whatever row of steps leads
to a place is the beginning of a case, or a case.
"""

MOST_PARTS = 9
LAST_STEP = 5
STEP = 0
NOTHING = 1
IN_A_ROW = 2
ONE_OF_TWO = 3
SIDE_BY_SIDE = 4
ROUNDS = 5


class Machine:
    """For each place its ways on, pairs of a step and a place, and whether a case may end there."""

    def __init__(self, ways, ends):
        self.ways = ways
        self.ends = ends


def nothing():
    return Machine([[]], [True])


def one_step(step):
    return Machine([[(step, 1)], []], [False, True])


def shifted_pairs(pairs, by):
    return [(step, place + by) for step, place in pairs]


def shifted_ways(ways, by):
    return [shifted_pairs(pairs, by) for pairs in ways]


def going_on(ways, ends, more):
    """The ways, and at each end the ways in more too."""
    return [pairs + more if end else pairs for pairs, end in zip(ways, ends)]


def in_a_row(first, second):
    behind = shifted_ways(second.ways, len(first.ways))
    ways = going_on(first.ways, first.ends, behind[0]) + behind
    ends = [end and second.ends[0] for end in first.ends] + second.ends
    return Machine(ways, ends)


def one_of_two(first, second):
    # A beginning of its own: either may come back to its own beginning's ways later.
    left = shifted_ways(first.ways, 1)
    right = shifted_ways(second.ways, 1 + len(first.ways))
    ends = [first.ends[0] or second.ends[0]] + first.ends + second.ends
    return Machine([left[0] + right[0]] + left + right, ends)


def side_by_side(first, second):
    width = len(second.ways)
    ways = []
    ends = []
    for left, pairs in enumerate(first.ways):
        for right, others in enumerate(second.ways):
            on_the_left = [(step, place * width + right) for step, place in pairs]
            ways.append(on_the_left + shifted_pairs(others, left * width))
            ends.append(first.ends[left] and second.ends[right])
    return Machine(ways, ends)


def rounds(first, second):
    # The first has no empty case, so behind the second one step into the first suffices.
    again = first.ways[0]
    behind = shifted_ways(second.ways, len(first.ways))
    more = behind[0] + again if second.ends[0] else behind[0]
    ways = going_on(first.ways, first.ends, more) + going_on(behind, second.ends, again)
    return Machine(ways, first.ends + [False for end in second.ends])


def joined(kind, first, second):
    """The machine of two, or None where there's no such process."""
    if kind == IN_A_ROW:
        return in_a_row(first, second)
    if kind == ONE_OF_TWO:
        return one_of_two(first, second)
    if kind == SIDE_BY_SIDE:
        return side_by_side(first, second)
    if first.ends[0]:
        return None
    return rounds(first, second)


def parts_told(told):
    """The parts in order, pairs of a kind and a step (0 where it has none), or None if one is none."""
    parts = []
    at = 0
    while at < len(told):
        kind = told[at]
        step = 0
        if kind > ROUNDS:
            return None
        if kind == STEP:
            at += 1
            if at == len(told) or told[at] > LAST_STEP:
                return None
            step = told[at]
        parts.append((kind, step))
        at += 1
    return parts


def machine_of_part(part, behind):
    """The machine that begins with this part, out of those behind it; None if there's none."""
    kind = part[0]
    if kind == STEP:
        return one_step(part[1])
    if kind == NOTHING:
        return nothing()
    if len(behind) < 2:
        return None
    first = behind.pop()
    second = behind.pop()
    return joined(kind, first, second)


def machine_told(told):
    """The machine of the process told in numbers, or None if it isn't just a process."""
    parts = parts_told(told)
    # Too many parts are refused ahead of building: side by side, places multiply.
    if parts is None or len(parts) > MOST_PARTS:
        return None
    # From the last part to the first, each finds its two ready, nearest last.
    ready = []
    for part in reversed(parts):
        machine = machine_of_part(part, ready)
        if machine is None:
            return None
        ready.append(machine)
    return ready[0] if len(ready) == 1 else None


def places_after(machine, places, step):
    reached = {}
    for place in places:
        for way in machine.ways[place]:
            if way[0] == step:
                reached[way[1]] = True
    return list(reached)


def places_behind(machine, row):
    """All places to which the row leads; none if it isn't the beginning of a case."""
    places = [0]
    for step in row:
        places = places_after(machine, places, step)
    return places


def is_case(machine, row):
    return any([machine.ends[place] for place in places_behind(machine, row)])

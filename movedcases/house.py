"""The house: its processes, rules, prices and cases, and the answers to the calls about it."""

from movedcases.machines import LAST_STEP, is_case, machine_told, nothing, places_after, places_behind
from movedcases.rules import are_kept, is_rule
from movedcases.ways import LOST, OWED, can_be_kept, way_over

MOST_CALLS_DONE = 40
MOST_PROCESSES = 4
MOST_RULES = 2
MOST_CASES = 3
MOST_STEPS_DONE = 5
HIGHEST_PRICE = 100


class UnknownCall(ValueError):
    """A call by a number that the house has no answer for."""


class Case:
    """A case as it is at some time: what is done in it makes another one."""

    def __init__(self, process, stands, owed, done):
        self.process = process
        self.stands = stands
        self.owed = owed
        self.done = done


class House:
    """Prices are two rows, a price for each step: as lost, as owed."""

    def __init__(self):
        self.machines = [nothing()]
        self.rules = []
        self.prices = [[1 for step in range(LAST_STEP + 1)], [1 for step in range(LAST_STEP + 1)]]
        self.cases = []
        self.calls_done = 0


def is_worn_out(house):
    return house.calls_done >= MOST_CALLS_DONE


def newest(house):
    return len(house.machines) - 1


def can_keep_rules(house, case):
    return can_be_kept(house.machines[case.process], house.rules, case.stands, case.done + case.owed)


def is_through(house, case):
    if len(case.owed) > 0 or not is_case(house.machines[case.process], case.stands):
        return False
    return are_kept(house.rules, case.done)


def case_after(house, case, step):
    """The case with the step done, or None if it may not be done next."""
    done = case.done + [step]
    if len(case.owed) > 0:
        if step != case.owed[0]:
            return None
        return Case(case.process, case.stands, case.owed[1:], done)
    machine = house.machines[case.process]
    if len(places_after(machine, places_behind(machine, case.stands), step)) == 0:
        return None
    return Case(case.process, case.stands + [step], [], done)


def tell_process(house, told):
    machine = machine_told(told)
    if machine is None:
        return [-1]
    if is_worn_out(house):
        return [-8]
    if len(house.machines) >= MOST_PROCESSES:
        return [-7]
    house.machines.append(machine)
    return [newest(house)]


def tell_rule(house, told):
    if not is_rule(told):
        return [-1]
    if is_worn_out(house):
        return [-8]
    if len(house.rules) >= MOST_RULES:
        return [-7]
    house.rules.append(tuple(told))
    too_late = [case for case in house.cases if not can_keep_rules(house, case)]
    return [len(house.rules) - 1, len(too_late)]


def set_price(house, told):
    kind = told[0]
    step = told[1]
    cost = told[2]
    if kind > 1 or step > LAST_STEP or cost < 1 or cost > HIGHEST_PRICE:
        return [-1]
    if is_worn_out(house):
        return [-8]
    house.prices[kind][step] = cost
    return [0]


def begin_case(house, told):
    if is_worn_out(house):
        return [-8]
    if len(house.cases) >= MOST_CASES:
        return [-7]
    house.cases.append(Case(newest(house), [], [], []))
    return [len(house.cases) - 1]


def do_step(house, told):
    which = told[0]
    if is_worn_out(house):
        return [-8]
    if which >= len(house.cases):
        return [-2]
    case = case_after(house, house.cases[which], told[1])
    if case is None:
        return [-5]
    if len(case.done) > MOST_STEPS_DONE:
        return [-7]
    house.cases[which] = case
    return [len(case.done), 1 if can_keep_rules(house, case) else 0, 1 if is_through(house, case) else 0]


def move_case(house, told):
    which = told[0]
    if is_worn_out(house):
        return [-8]
    if which >= len(house.cases):
        return [-2]
    case = house.cases[which]
    if case.process == newest(house):
        return [-3]
    found = way_over(house.machines[newest(house)], house.rules, house.prices, case.done)
    if found is None:
        return [-6]
    stands = [step for kind, step in found[1] if kind != LOST]
    owed = [step for kind, step in found[1] if kind == OWED]
    house.cases[which] = Case(newest(house), stands, owed, case.done)
    return [found[0]] + owed


# By the call's number: what answers it, and how many numbers it has (None: it says so itself).
CALLS = (
    (tell_process, None),
    (tell_rule, None),
    (set_price, 3),
    (begin_case, 0),
    (do_step, 2),
    (move_case, 1),
)


def answer(house, number, told):
    answered = CALLS[number][0](house, told)
    if answered[0] >= 0:
        house.calls_done += 1
    return answered


def answers(calls):
    """The answers to the calls on a new house, each with how many numbers it has before it."""
    house = House()
    given = []
    at = 0
    while at < len(calls):
        number = calls[at]
        if number >= len(CALLS):
            raise UnknownCall(f"no call has the number {number}")
        at += 1
        size = CALLS[number][1]
        if size is None:
            size = calls[at]
            at += 1
        answered = answer(house, number, calls[at:at + size])
        at += size
        given.append(len(answered))
        given.extend(answered)
    return given

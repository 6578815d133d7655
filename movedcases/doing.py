"""The calls 0 to 5, by which something is done in the house."""

from movedcases.cases import Case, can_keep_rules, case_after, cases_too_late, house_copied, is_through, newest
from movedcases.cases import way_to_newest
from movedcases.machines import LAST_STEP, machine_told
from movedcases.rules import is_rule
from movedcases.ways import LOST, OWED

MOST_CALLS_DONE = 40
MOST_PROCESSES = 4
MOST_RULES = 2
MOST_CASES = 3
MOST_STEPS_DONE = 5
HIGHEST_PRICE = 100


def is_worn_out(house):
    return house.calls_done >= MOST_CALLS_DONE


def tell_process(house, told):
    machine = machine_told(told)
    if machine is None:
        return [-1]
    if is_worn_out(house):
        return [-8]
    if len(house.machines) >= MOST_PROCESSES:
        return [-7]
    house.machines.append(machine)
    return [newest(house)]


def tell_rule(house, told):
    if not is_rule(told):
        return [-1]
    if is_worn_out(house):
        return [-8]
    if len(house.rules) >= MOST_RULES:
        return [-7]
    house.rules.append(tuple(told))
    return [len(house.rules) - 1, len(cases_too_late(house))]


def set_price(house, told):
    kind = told[0]
    step = told[1]
    cost = told[2]
    if kind > 1 or step > LAST_STEP or cost < 1 or cost > HIGHEST_PRICE:
        return [-1]
    if is_worn_out(house):
        return [-8]
    house.prices[kind][step] = cost
    return [0]


def begin_case(house, told):
    if is_worn_out(house):
        return [-8]
    if len(house.cases) >= MOST_CASES:
        return [-7]
    house.cases.append(Case(newest(house), [], [], []))
    return [len(house.cases) - 1]


def do_step(house, told):
    which = told[0]
    if is_worn_out(house):
        return [-8]
    if which >= len(house.cases):
        return [-2]
    case = case_after(house, house.cases[which], told[1])
    if case is None:
        return [-5]
    if len(case.done) > MOST_STEPS_DONE:
        return [-7]
    house.cases[which] = case
    return [len(case.done), 1 if can_keep_rules(house, case) else 0, 1 if is_through(house, case) else 0]


def move_case(house, told):
    which = told[0]
    if is_worn_out(house):
        return [-8]
    if which >= len(house.cases):
        return [-2]
    case = house.cases[which]
    if case.process == newest(house):
        return [-3]
    found = way_to_newest(house, case)
    if found is None:
        return [-6]
    stands = [step for kind, step in found[1] if kind != LOST]
    owed = [step for kind, step in found[1] if kind == OWED]
    house.cases[which] = Case(newest(house), stands, owed, case.done)
    return [found[0]] + owed


# By the call's number.
DOING = (tell_process, tell_rule, set_price, begin_case, do_step, move_case)


def answer_and_do(moments, number, told):
    """The answer to the call; if it isn't refused, the house behind it is put behind the moments."""
    # It has a copy to itself: so moments stay as they were, and a refusal changes nothing.
    house = house_copied(moments[-1])
    answered = DOING[number](house, told)
    if answered[0] >= 0:
        house.calls_done += 1
        moments.append(house)
    return answered

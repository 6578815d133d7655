"""Cases, the house they are in as it is at one moment, and what's so of a case there."""

from movedcases.machines import LAST_STEP, is_case, nothing, places_after, places_behind
from movedcases.rules import are_kept
from movedcases.ways import can_be_kept, way_over


class Case:
    """A case as it is at some time: what is done in it makes another one."""

    def __init__(self, process, stands, owed, done):
        self.process = process
        self.stands = stands
        self.owed = owed
        self.done = done


class House:
    """The house as it is at one moment. Prices are two rows, a price for each step: as lost, as owed."""

    def __init__(self, machines, rules, prices, cases, calls_done):
        self.machines = machines
        self.rules = rules
        self.prices = prices
        self.cases = cases
        self.calls_done = calls_done


def new_house():
    prices = [[1 for step in range(LAST_STEP + 1)], [1 for step in range(LAST_STEP + 1)]]
    return House([nothing()], [], prices, [], 0)


def house_copied(house):
    # Machines, rules and cases are never changed themselves, so the copy may share them.
    prices = [list(row) for row in house.prices]
    return House(list(house.machines), list(house.rules), prices, list(house.cases), house.calls_done)


def newest(house):
    return len(house.machines) - 1


def can_keep_rules(house, case):
    return can_be_kept(house.machines[case.process], house.rules, case.stands, case.done + case.owed)


def cases_too_late(house):
    """The numbers of the cases in which not all rules can be kept any more, rising."""
    return [which for which, case in enumerate(house.cases) if not can_keep_rules(house, case)]


def is_through(house, case):
    if len(case.owed) > 0 or not is_case(house.machines[case.process], case.stands):
        return False
    return are_kept(house.rules, case.done)


def case_after(house, case, step):
    """The case with the step done, or None if it may not be done next."""
    done = case.done + [step]
    if len(case.owed) > 0:
        if step != case.owed[0]:
            return None
        return Case(case.process, case.stands, case.owed[1:], done)
    machine = house.machines[case.process]
    if len(places_after(machine, places_behind(machine, case.stands), step)) == 0:
        return None
    return Case(case.process, case.stands + [step], [], done)


def way_to_newest(house, case):
    """What the way over to the newest process costs, and its moves; None if there's none."""
    return way_over(house.machines[newest(house)], house.rules, house.prices, case.done)

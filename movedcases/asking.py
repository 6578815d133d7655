"""The calls 6 to 11, by which the house is only asked: of some moment, or of now."""

from movedcases.cases import can_keep_rules, case_after, cases_too_late, is_through, way_to_newest
from movedcases.machines import LAST_STEP
from movedcases.ways import earliest_way_on


def counted(row):
    return [len(row)] + row


def show_case(house, case):
    return [case.process] + counted(case.stands) + counted(case.owed) + counted(case.done)


def is_allowed(house, case, step):
    after = case_after(house, case, step)
    return after is not None and can_keep_rules(house, after)


def show_allowed(house, case):
    allowed = [step for step in range(LAST_STEP + 1) if is_allowed(house, case, step)]
    return [1 if is_through(house, case) else 0] + allowed


def show_finish(house, case):
    way = earliest_way_on(house.machines[case.process], house.rules, case.stands, case.done + case.owed)
    if way is None:
        return [-6]
    return counted(case.owed + way)


def show_over(house, told):
    which = told[0]
    if which >= len(house.cases):
        return [-2]
    found = way_to_newest(house, house.cases[which])
    if found is None:
        return [-6]
    shown = [found[0]]
    for move in found[1]:
        shown.extend(move)
    return shown


def show_lost(house, told):
    return counted(cases_too_late(house))


def show_moment(house, told):
    return [house.calls_done]


# By the call's number: from 6 on, and from 9 on.
OF_A_MOMENT = (show_case, show_allowed, show_finish)
OF_NOW = (show_over, show_lost, show_moment)


def answer_of_moment(moments, number, told):
    time = told[0]
    which = told[1]
    if time >= len(moments):
        return [-4]
    house = moments[time]
    if which >= len(house.cases):
        return [-2]
    return OF_A_MOMENT[number - 6](house, house.cases[which])


def answer_of_now(moments, number, told):
    return OF_NOW[number - 9](moments[-1], told)

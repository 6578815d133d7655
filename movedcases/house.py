"""The answers to a line of calls about one house."""

from movedcases.asking import answer_of_moment, answer_of_now
from movedcases.cases import new_house
from movedcases.doing import answer_and_do

# By the call's number: how many numbers it has (None: it says so itself).
SIZES = (None, None, 3, 0, 2, 1, 2, 2, 2, 1, 0, 0)
LAST_THAT_DOES = 5
LAST_OF_A_MOMENT = 8


def answer(moments, number, told):
    """The answer to one call; moments are the house at each moment from 0 to now."""
    if number <= LAST_THAT_DOES:
        return answer_and_do(moments, number, told)
    if number <= LAST_OF_A_MOMENT:
        return answer_of_moment(moments, number, told)
    return answer_of_now(moments, number, told)


def answers(calls):
    """The answers to the calls on a new house, each with how many numbers it has before it."""
    moments = [new_house()]
    given = []
    at = 0
    while at < len(calls):
        number = calls[at]
        size = SIZES[number]
        at += 1
        if size is None:
            size = calls[at]
            at += 1
        answered = answer(moments, number, calls[at:at + size])
        at += size
        given.append(len(answered))
        given.extend(answered)
    return given

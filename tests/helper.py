"""What the tests share: calls in numbers, and answers taken apart."""

from movedcases.house import answers

# Processes in numbers, to be put together.
NOTHING = [1]


def step(number):
    return [0, number]


def row(first, second):
    return [2] + first + second


def either(first, second):
    return [3] + first + second


def beside(first, second):
    return [4] + first + second


def rounds(first, second):
    return [5] + first + second


def in_row(*numbers):
    """The process whose one case is this row of steps."""
    told = step(numbers[-1])
    for number in reversed(numbers[:-1]):
        told = row(step(number), told)
    return told


# Calls, to be put one behind another.
OPEN = [3]
LOST_CASES = [10]
MOMENT = [11]


def process(told):
    return [0, len(told)] + list(told)


def rule(*told):
    return [1, len(told)] + list(told)


def price(kind, number, cost):
    return [2, kind, number, cost]


def do(which, *numbers):
    """One call of do for each of the steps."""
    calls = []
    for number in numbers:
        calls += [4, which, number]
    return calls


def move(which):
    return [5, which]


def case(time, which):
    return [6, time, which]


def allowed(time, which):
    return [7, time, which]


def finish(time, which):
    return [8, time, which]


def over(which):
    return [9, which]


def line(*calls):
    together = []
    for call in calls:
        together += call
    return together


def taken_apart(given):
    """The answers, one list for each call."""
    found = []
    at = 0
    while at < len(given):
        found.append(given[at + 1:at + 1 + given[at]])
        assert len(found[-1]) == given[at] > 0, given
        at += 1 + given[at]
    return found


def ask(*calls):
    """The answers to all these calls, one list for each."""
    return taken_apart(answers(line(*calls)))


def last(*calls):
    """The answer to the last of these calls."""
    return ask(*calls)[-1]

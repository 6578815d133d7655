"""Rules: their forms, and whether a row of steps keeps them.

A rule is a tuple of its kind and its numbers. What it has to know of a row so far is
one small number, its mark: 0 at the row's beginning, and changed step by step. So
there are few marks, however long rows get, and a search through them ends.
"""

LAST_KIND = 8
HIGHEST_STEP = 4
HIGHEST_COUNT = 3
BROKEN = 2


def is_rule(told):
    """Whether the numbers told are one of the nine forms."""
    if len(told) < 2 or told[0] > LAST_KIND or told[1] > HIGHEST_STEP:
        return False
    kind = told[0]
    if kind == 2 or kind == 3:
        return len(told) == 2
    if len(told) != 3:
        return False
    if kind < 2:
        return told[2] <= HIGHEST_COUNT
    return told[2] <= HIGHEST_STEP and told[1] != told[2]


def mark_of_count(rule, mark, step):
    # One more than n tells as much as any number above it.
    return min(mark + 1, rule[2] + 1) if step == rule[1] else mark


def mark_of_first(rule, mark, step):
    if mark != 0:
        return mark
    return 1 if step == rule[1] else BROKEN


def mark_of_last(rule, mark, step):
    return 1 if step == rule[1] else 0


def mark_of_later(rule, mark, step):
    if step == rule[1]:
        return 1
    return 0 if step == rule[2] else mark


def mark_of_ahead(rule, mark, step):
    if mark == 0 and step == rule[1]:
        return 1
    if mark == 0 and step == rule[2]:
        return BROKEN
    return mark


def mark_of_right_behind(rule, mark, step):
    if mark == BROKEN or (mark == 1 and step != rule[2]):
        return BROKEN
    return 1 if step == rule[1] else 0


def mark_of_not_both(rule, mark, step):
    if step == rule[1]:
        return mark | 1
    return mark | 2 if step == rule[2] else mark


def mark_of_between(rule, mark, step):
    if mark == BROKEN:
        return BROKEN
    if step == rule[1]:
        return BROKEN if mark == 1 else 1
    return 0 if step == rule[2] else mark


MARKS = (
    mark_of_count,
    mark_of_count,
    mark_of_first,
    mark_of_last,
    mark_of_later,
    mark_of_ahead,
    mark_of_right_behind,
    mark_of_not_both,
    mark_of_between,
)


def is_kept_at(rule, mark):
    """Whether a row that ends with this mark keeps the rule."""
    kind = rule[0]
    if kind == 0:
        return mark >= rule[2]
    if kind == 1:
        return mark <= rule[2]
    if kind == 2 or kind == 3:
        return mark == 1
    if kind == 4 or kind == 6:
        return mark == 0
    if kind == 7:
        return mark != 3
    return mark != BROKEN


def marks_after(rules, marks, step):
    return tuple([MARKS[rule[0]](rule, mark, step) for rule, mark in zip(rules, marks)])


def marks_behind(rules, row):
    """One mark for each rule, as they are at the end of the row."""
    marks = tuple([0 for rule in rules])
    for step in row:
        marks = marks_after(rules, marks, step)
    return marks


def are_kept_at(rules, marks):
    return all([is_kept_at(rule, mark) for rule, mark in zip(rules, marks)])


def are_kept(rules, row):
    return are_kept_at(rules, marks_behind(rules, row))

"""The calls as they stand in the list, and how a line of them is asked."""

from wateringround.yard import answers


def begins(holds):
    return [0, 1, holds, 0]


def tap(x, y):
    return [1, 2, x, y, 0]


def pot(x, y, water, wilts):
    return [2, 4, x, y, water, wilts, 0]


def check(*plan):
    return [3, len(plan), *plan, 0]


def best():
    return [4, 0, 0]


def split(*order):
    return [5, len(order), *order, 0]


def fewest():
    return [6, 0, 0]


def plain():
    return [7, 0, 0]


def line(*calls):
    return [number for call in calls for number in call]


def ask(*calls):
    """The whole list that is given back for these calls."""
    return answers(line(*calls))


def ask_behind(before, *calls):
    """What is given back for the calls that follow those of `before`."""
    return ask(*before, *calls)[len(ask(*before)):]

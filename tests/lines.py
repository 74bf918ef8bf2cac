"""Writes lines of calls by their names and reads their answers call by call."""

from cellpacks.shop import answers

MOST = 4294967295


def start(*bounds):
    return [0, len(bounds)] + list(bounds)


def cell(holds, resists=1):
    return [1, holds, resists]


# The call test, under a name that no test runner gathers.
def retest(i, holds, resists=1):
    return [2, i, holds, resists]


def scrap(i):
    return [3, i]


def grade(i):
    return [4, i]


def grades():
    return [5]


def match(groups, size):
    return [6, groups, size]


def build(groups, size):
    return [7, groups, size]


def could(groups, size, strength_asked):
    return [8, groups, size, strength_asked]


def pack(p):
    return [9, p]


def strength(p):
    return [10, p]


def weak(p):
    return [11, p]


def lacks(p):
    return [12, p]


def better(p):
    return [13, p]


def exchange(i, j):
    return [14, i, j]


def resists(p):
    return [15, p]


def near():
    return [16]


def loose():
    return [17]


def retire(p):
    return [18, p]


def look(i):
    return [19, i]


def state():
    return [20]


def cells(*holds):
    return [cell(held) for held in holds]


def flat(calls):
    return [number for call in calls for number in call]


def split_answers(given):
    split = []
    at = 0
    while at < len(given):
        many = given[at]
        split.append(given[at + 1:at + 1 + many])
        at += 1 + many
    if at != len(given):
        raise AssertionError(f"the last count of {given} is more than what stands behind it")
    return split


def run(*calls):
    """The answers to the calls, one list for each call."""
    split = split_answers(answers(flat(calls)))
    if len(split) != len(calls):
        raise AssertionError(f"{len(calls)} calls, {len(split)} answers")
    return split


def last(*calls):
    return run(*calls)[-1]


def behind(before, *calls):
    """The answers to the calls alone, where the ones before go ahead of them."""
    return run(*before, *calls)[len(before):]


def firsts(*calls):
    """The first number of each answer."""
    return [answer[0] for answer in run(*calls)]

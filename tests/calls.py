"""Calls as lists of numbers, and their answers one by one, for the tests."""

from maysee.lists import answers

TOP = 4294967295


def begin():
    return [0]


def add(w, a=0, b=0, mask=0):
    return [1, w, a, b, mask]


def change(w, i, a=0, b=0, mask=0):
    return [2, w, i, a, b, mask]


def drop(w, i):
    return [3, w, i]


def erase(w, i):
    return [4, w, i]


def joined(calls):
    return [number for call in calls for number in call]


def answered(*calls):
    """What each call answers, as a list of the numbers answered for each."""
    told = answers(joined(calls))
    parts = []
    while told:
        parts.append(told[1:1 + told[0]])
        told = told[1 + told[0]:]
    return parts


def firsts(*calls):
    """What each call answers, where each answers one number, but for the begin that is set ahead."""
    parts = answered(begin(), *calls)
    if any(len(part) != 1 for part in parts):
        raise AssertionError(f"not one number each: {parts}")
    if len(parts) != len(calls) + 1 or parts[0] != [0]:
        raise AssertionError(f"not an answer for each call: {parts}")
    return [part[0] for part in parts[1:]]

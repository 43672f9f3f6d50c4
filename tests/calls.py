"""Calls as lists of numbers, and their answers one by one, for the tests."""

from maysee.lists import answers

TOP = 4294967295


def begin():
    return [0]


def add(w, a=0, b=0, mask=0):
    return [1, w, a, b, mask]


def change(w, i, a=0, b=0, mask=0):
    return [2, w, i, a, b, mask]


def drop(w, i):
    return [3, w, i]


def erase(w, i):
    return [4, w, i]


def opening(w, mode=0, order=0, lo=0, hi=TOP):
    return [5, w, mode, order, lo, hi]


def onward(w, r=0, n=20):
    return [6, w, r, n]


def backward(w, r=0, n=20):
    return [7, w, r, n]


def left(w, r=0):
    return [8, w, r]


def close(w, r=0):
    return [9, w, r]


def joined(calls):
    return [number for call in calls for number in call]


def answered(*calls):
    """What each call answers, as a list of the numbers answered for each."""
    told = answers(joined(calls))
    parts = []
    while told:
        parts.append(told[1:1 + told[0]])
        told = told[1 + told[0]:]
    return parts


def firsts(*calls):
    """What each call answers, where each answers one number, but for the begin that is set ahead."""
    parts = answered(begin(), *calls)
    if any(len(part) != 1 for part in parts):
        raise AssertionError(f"not one number each: {parts}")
    if len(parts) != len(calls) + 1 or parts[0] != [0]:
        raise AssertionError(f"not an answer for each call: {parts}")
    return [part[0] for part in parts[1:]]


def behind(before, *calls):
    """What each call answers behind a begin and the calls before, of which none may be refused."""
    parts = answered(begin(), *before, *calls)
    if len(parts) != 1 + len(before) + len(calls):
        raise AssertionError(f"not an answer for each call: {parts}")
    if any(part[0] < 0 for part in parts[:1 + len(before)]):
        raise AssertionError(f"a call that came before was refused: {parts}")
    return parts[1 + len(before):]


def told(*rows):
    """The answer of next or back that tells these rows, each an id, an a and a b."""
    return [len(rows), *joined(rows)]


def rows_of(answer):
    """The rows that an answer of next or back tells."""
    if answer[0] < 0 or len(answer) != 1 + 3 * answer[0]:
        raise AssertionError(f"not rows: {answer}")
    return [tuple(answer[k:k + 3]) for k in range(1, len(answer), 3)]


def ids_of(answer):
    return [row[0] for row in rows_of(answer)]

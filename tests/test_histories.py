"""Every short list of some calls, against answers that are told from the calls that weren't refused."""

import itertools
import unittest

from maysee.lists import answers
from tests.calls import add, begin, change, drop, erase, joined

SOME_CALLS = (
    begin(), add(0), add(1, mask=65535), add(16), change(0, 0), change(0, 1, mask=65536), change(1, 0, mask=65536),
    drop(0, 0), drop(1, 0), drop(1, 1), erase(0, 0), erase(1, 0), erase(1, 1),
)


def told_by(history, call):
    """What the document says of a call, behind the calls since the last begin that weren't refused."""
    number, w = call[0], call[1] if len(call) > 1 else 0
    owners = [done[1] for done in history if done[0] == 1]
    gone = [done[2] for done in history if done[0] in (3, 4)]
    erased = [done[2] for done in history if done[0] == 4]
    if number == 0:
        return 0
    if number == 1:
        return -22 if w > 15 or call[4] > 65535 else len(owners)
    i = call[2]
    if i >= len(owners) or (number != 4 and i in gone):
        return -2
    if owners[i] != w:
        return -1
    if number == 2:
        return -22 if call[5] > 65535 else 0
    return -17 if number == 4 and i in erased else 0


def all_told(calls):
    history, told = [], []
    for call in calls:
        answer = told_by(history, call)
        told += [1, answer]
        if call[0] == 0:
            history = []
        elif answer >= 0:
            history.append(call)
    return told


class Histories(unittest.TestCase):
    def test_every_list_of_four_calls_behind_begin(self):
        for some in itertools.product(SOME_CALLS, repeat=4):
            calls = [begin(), *some]
            told = answers(joined(calls))
            if told != all_told(calls):
                self.assertEqual(told, all_told(calls), calls)


if __name__ == "__main__":
    unittest.main()

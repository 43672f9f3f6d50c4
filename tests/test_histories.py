"""Many lists of calls, against answers that are told by the document's words written another way."""

import itertools
import random
import unittest

from tests.calls import (
    TOP, add, answered, backward, begin, change, close, drop, erase, left, onward, opening)
from tests.words import Words, all_answers

ON_THINGS = (
    begin(), add(0), add(1, mask=65535), add(16), change(0, 0), change(0, 1, mask=65536), change(1, 0, mask=65536),
    drop(0, 0), drop(1, 0), drop(1, 1), erase(0, 0), erase(1, 0), erase(1, 1),
)
BEFORE_READING = (add(0, 1, 1, 0b10), add(1, 2, 1, 0), add(0, 2, 0, 0), opening(1, 0, 0), opening(1, 1, 3))
ON_READERS = (
    begin(), add(1, 2, 2), change(0, 0, 2, 1, 0), change(0, 0, 3, 1, 0b10), change(0, 2, 2, 0, 0b10), drop(1, 1),
    erase(0, 0), onward(1, 0, 1), onward(1, 1, 2), backward(1, 0, 1), backward(1, 1, 2), left(1, 0), left(1, 1),
    close(1, 0), opening(0, 0, 1), onward(0, 2, 2),
)


def some_number(chance):
    return chance.choice((0, 1, 2, 3, 3, 4, 5, TOP - 1, TOP))


def some_mask(chance):
    return chance.choice((0, 0, 1, 2, 3, 4, 6, 7, 65535, chance.randrange(65536), chance.choice((5, 5, 5, 65536))))


def some_person(chance):
    return chance.choice((0, 0, 0, 1, 1, 1, 2, 2, 15, chance.choice((0, 0, 0, 16))))


def some_range(chance):
    lo, hi = some_number(chance), some_number(chance)
    if chance.random() < .5:
        return (0, TOP)
    return (lo, hi) if chance.random() < .1 else (min(lo, hi), max(lo, hi))


def on_some_thing(chance, words):
    """Most often one that came, by the person whose it is."""
    i = chance.randrange(len(words.owners) + 1)
    w = some_person(chance)
    if i < len(words.owners) and chance.random() < .8:
        w = words.owners[i]
    numbers = (some_number(chance), some_number(chance), some_mask(chance))
    some = change(w, i, *numbers)
    return chance.choice((some, some, some, drop(w, i), erase(w, i)))


def on_some_reader(chance, words):
    """Most often one that is there, by the person whose it is."""
    there = [r for r, reader in enumerate(words.readers) if reader is not None]
    r, w = chance.randrange(len(words.readers) + 1), some_person(chance)
    if there and chance.random() < .95:
        r = chance.choice(there)
        w = words.readers[r]["w"] if chance.random() < .95 else w
    n = chance.choice((1, 1, 2, 2, 3, 4, 5, 20, chance.choice((0, 21, 1, 2))))
    calls = (onward(w, r, n), onward(w, r, n), onward(w, r, n), backward(w, r, n), backward(w, r, n), left(w, r))
    return close(w, r) if chance.random() < .03 else chance.choice(calls)


def some_call(chance, words):
    what = chance.random()
    if what < .003:
        return begin()
    if what < .2:
        return add(some_person(chance), some_number(chance), some_number(chance), some_mask(chance))
    if what < .25:
        mode, order = chance.choice((0, 1, 0, 1, 0, 1, 2)), chance.choice((0, 1, 2, 3, 0, 1, 2, 3, 4))
        return opening(some_person(chance), mode, order, *some_range(chance))
    return on_some_thing(chance, words) if what < .5 else on_some_reader(chance, words)


def some_list(chance, how_many):
    words, calls = Words(), [begin()]
    words.answer(begin())
    while len(calls) < how_many:
        calls.append(some_call(chance, words))
        words.answer(calls[-1])
    return calls


class Histories(unittest.TestCase):
    def hold(self, calls):
        told, expected = answered(*calls), all_answers(calls)
        if told != expected:
            first = [k for k in range(len(calls)) if told[k:k + 1] != expected[k:k + 1]][0]
            self.assertEqual(told, expected, calls[:first + 1])

    def test_every_list_of_four_calls_on_things(self):
        for some in itertools.product(ON_THINGS, repeat=4):
            self.hold([begin(), *some])

    def test_every_list_of_four_calls_where_two_read(self):
        for some in itertools.product(ON_READERS, repeat=4):
            self.hold([begin(), *BEFORE_READING, *some])

    def test_many_lists_of_some_calls(self):
        for seed in range(300):
            self.hold(some_list(random.Random(seed), 100))

    def test_some_lists_of_400_calls(self):
        for seed in range(15):
            self.hold(some_list(random.Random(1000 + seed), 400))


if __name__ == "__main__":
    unittest.main()

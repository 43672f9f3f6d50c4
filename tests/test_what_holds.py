"""What the document says holds, over many changing lists."""

import random
import unittest

from tests.calls import (
    TOP, add, answered, backward, begin, behind, change, close, drop, erase, ids_of, left, onward, opening, rows_of)

READ_BY = 1
FOR_READER = 1 << READ_BY
SEEDS = range(250)


def some_row(chance):
    return [chance.choice((0, 1, 2, 3, 4, 5, TOP)), chance.choice((0, 1, 2, 3, TOP))]


def some_mask(chance):
    return chance.choice((0, FOR_READER, FOR_READER, 0b101, 65535))


def rank(order, row):
    number = row[1] if order < 2 else row[2]
    return (-number if order in (1, 3) else number, row[0])


class Changing:
    """A list that some change while one reads, with what the calls told and for each thing what was done to it."""

    def __init__(self, seed, mode):
        self.chance = random.Random(seed)
        self.mode, self.order = mode, self.chance.randrange(4)
        self.lo, self.hi = self.chance.choice(((0, TOP), (0, TOP), (1, 4), (3, 3), (5, TOP)))
        self.calls, self.owners, self.now, self.gone, self.touched = [begin()], [], [], set(), set()
        for k in range(self.chance.randrange(25)):
            self.add()
        for k in range(self.chance.randrange(5)):
            self.change_some()
        self.calls.append(opening(READ_BY, mode, self.order, self.lo, self.hi))
        self.opened_with = {i: self.now[i] for i in range(len(self.owners)) if i not in self.gone}
        # What was done before the opening is no change to who reads from then on.
        self.touched, self.reading = set(), []

    def add(self):
        row, mask = some_row(self.chance), some_mask(self.chance)
        self.owners.append(self.chance.choice((0, READ_BY, 2)))
        self.now.append((*row, mask))
        self.calls.append(add(self.owners[-1], *row, mask))

    def change_some(self):
        here = [i for i in range(len(self.owners)) if i not in self.gone]
        if not here or self.chance.random() < .3:
            self.add()
            return
        i = self.chance.choice(here)
        how = self.chance.choice((change, change, drop, erase))
        if how is change:
            self.now[i] = (*some_row(self.chance), some_mask(self.chance))
            self.calls.append(change(self.owners[i], i, *self.now[i]))
        else:
            self.gone.add(i)
            self.calls.append(how(self.owners[i], i))
        self.touched.add(i)

    def read_on_to_the_end(self):
        """Reads by pieces with changes between, then on without them until there's none, and gives what was told."""
        for k in range(self.chance.randrange(2, 12)):
            self.reading.append(len(self.calls))
            self.calls.append(onward(READ_BY, 0, self.chance.randrange(1, 5)))
            for j in range(self.chance.randrange(3)):
                self.change_some()
        for k in range(5):
            self.reading.append(len(self.calls))
            self.calls.append(onward(READ_BY, 0, 20))
        parts = answered(*self.calls)
        if any(part[0] < 0 for part in parts):
            raise AssertionError("none of these calls should be refused")
        return [rows_of(parts[k]) for k in self.reading]

    def sees(self, i, state):
        return self.owners[i] == READ_BY or state[2] & FOR_READER != 0

    def reads(self, state):
        return self.lo <= state[0] <= self.hi


class ReadOnToTheEnd(unittest.TestCase):
    def test_mode_0_tells_each_unchanged_thing_just_once(self):
        once, many = 0, 0
        for seed in SEEDS:
            some = Changing(seed, 0)
            pieces = some.read_on_to_the_end()
            told = [row for piece in pieces for row in piece]
            ids = [row[0] for row in told]
            self.assertEqual(pieces[-1], [])
            for i, state in some.opened_with.items():
                if i not in some.touched and some.sees(i, state) and some.reads(state):
                    self.assertEqual([row for row in told if row[0] == i], [(i, state[0], state[1])], seed)
                    once += 1
            for i in range(len(some.owners)):
                if i not in some.touched:
                    self.assertLessEqual(ids.count(i), 1, seed)
                    many += 1
            for piece in pieces:
                self.assertEqual(piece, sorted(piece, key=lambda row: rank(some.order, row)), seed)
        self.assertGreater(once, 500)
        self.assertGreater(many, once)

    def test_mode_1_tells_just_what_it_reads_of_what_was_there_in_its_order(self):
        once = 0
        for seed in SEEDS:
            some = Changing(seed, 1)
            told = [row for piece in some.read_on_to_the_end() for row in piece]
            self.assertEqual(told, sorted(set(told), key=lambda row: rank(some.order, row)), seed)
            for i, a, b in told:
                self.assertIn(i, some.opened_with, seed)
                self.assertEqual((a, b), some.opened_with[i][:2], seed)
                self.assertTrue(some.reads(some.opened_with[i]), seed)
            for i, state in some.opened_with.items():
                if i not in some.touched:
                    right = some.sees(i, state) and some.reads(state)
                    self.assertEqual((i, state[0], state[1]) in told, right, seed)
                    once += right
        self.assertGreater(once, 500)

    def test_mode_1_tells_all_where_nothing_is_erased_and_sight_stays(self):
        for seed in SEEDS:
            chance = random.Random(seed)
            rows = [some_row(chance) for k in range(chance.randrange(30))]
            order = chance.randrange(4)
            calls = [*[add(2, *row, FOR_READER) for row in rows], opening(READ_BY, 1, order)]
            expected = sorted([(i, *row) for i, row in enumerate(rows)], key=lambda row: rank(order, row))
            left_over = list(range(len(rows)))
            reading = []
            for k in range(32):
                if left_over and chance.random() < .4:
                    i = chance.choice(left_over)
                    if chance.random() < .5:
                        left_over.remove(i)
                        calls.append(drop(2, i))
                    else:
                        calls.append(change(2, i, *some_row(chance), FOR_READER))
                calls.append(add(READ_BY, *some_row(chance), 65535))
                reading.append(len(calls) + 1)
                calls.append(onward(READ_BY, 0, chance.randrange(1, 4)))
            parts = answered(begin(), *calls)
            told = [row for k in reading for row in rows_of(parts[k])]
            self.assertEqual(told, expected, seed)


class ForwardsAndBack(unittest.TestCase):
    def test_what_next_tells_back_for_as_many_tells_again_and_next_once_more(self):
        told_some = 0
        for seed in SEEDS:
            for mode in (0, 1):
                some = Changing(seed, mode)
                for k in range(some.chance.randrange(6)):
                    some.calls.append(some.chance.choice((onward, backward))(READ_BY, 0, some.chance.randrange(1, 6)))
                    some.change_some()
                n = some.chance.randrange(1, 21)
                first = answered(*some.calls, onward(READ_BY, 0, n), left(READ_BY))[-2:]
                if first[0][0] == 0:
                    continue
                again = [backward(READ_BY, 0, first[0][0]), onward(READ_BY, 0, first[0][0])]
                parts = answered(*some.calls, onward(READ_BY, 0, n), *again, left(READ_BY))
                self.assertEqual(parts[-4:], [first[0]] * 3 + [first[1]], seed)
                told_some += 1
        self.assertGreater(told_some, 200)


class Twins:
    """Two lists that are the same to the reader, but for things that they mayn't see."""

    def __init__(self, seed):
        self.chance = random.Random(seed)
        self.lists = ([begin()], [begin()])
        # For each id: whose it is in each of the lists, the mask in each, and whether it's there in each.
        self.owners, self.hidden, self.there = [], [], []
        self.watched, self.readers = [], 0

    def both(self, call):
        for calls in self.lists:
            calls.append(call)

    def hidden_mask(self):
        return self.chance.randrange(65536) & ~FOR_READER

    def add_hidden(self):
        self.owners.append([self.chance.choice((0, 2, 3)) for k in range(2)])
        for calls, owner in zip(self.lists, self.owners[-1]):
            calls.append(add(owner, *some_row(self.chance), self.hidden_mask()))
        self.hidden.append(True)
        self.there.append([True, True])
        i = len(self.owners) - 1
        for k in range(2):
            if self.chance.random() < .3:
                self.change_hidden(i, k)

    def add_seen(self):
        owner = self.chance.choice((0, READ_BY, 2))
        self.both(add(owner, *some_row(self.chance), FOR_READER))
        self.owners.append([owner, owner])
        self.hidden.append(False)
        self.there.append([True, True])

    def change_hidden(self, i, k):
        """Something is done to a hidden thing in one of the lists alone."""
        owner = self.owners[i][k]
        how = self.chance.choice((change, change, drop, erase))
        if how is change:
            self.lists[k].append(change(owner, i, *some_row(self.chance), self.hidden_mask()))
        else:
            self.lists[k].append(how(owner, i))
            self.there[i][k] = False

    def change_seen(self, i):
        owner = self.owners[i][0]
        how = self.chance.choice((change, change, drop, erase, "hide"))
        if how == "hide" and owner != READ_BY:
            # From here on it may go its own way in each of the lists.
            self.both(change(owner, i, *some_row(self.chance), 0))
            self.hidden[i] = True
        elif how in (drop, erase):
            self.both(how(owner, i))
            self.there[i] = [False, False]
        else:
            self.both(change(owner, i, *some_row(self.chance), FOR_READER))

    def do_something(self):
        what = self.chance.random()
        some = [i for i in range(len(self.owners)) if all(self.there[i])]
        if what < .15:
            self.add_hidden()
        elif what < .3:
            self.add_seen()
        elif what < .6 and some:
            i = self.chance.choice(some)
            if self.hidden[i]:
                self.change_hidden(i, self.chance.randrange(2))
            else:
                self.change_seen(i)
        elif what < .7 and self.readers < 8:
            self.watch(opening(READ_BY, self.chance.randrange(2), self.chance.randrange(4)))
            self.readers += 1
        elif self.readers:
            r, n = self.chance.randrange(self.readers), self.chance.randrange(1, 6)
            self.watch(self.chance.choice((onward(READ_BY, r, n), backward(READ_BY, r, n), left(READ_BY, r))))

    def watch(self, call):
        self.watched.append([len(calls) for calls in self.lists])
        self.both(call)

    def answers_watched(self):
        told = [answered(*calls) for calls in self.lists]
        return [[told[k][places[k]] for places in self.watched] for k in range(2)]


class NothingIsLearnt(unittest.TestCase):
    def test_lists_that_are_the_same_to_somebody_are_answered_alike(self):
        differ, told_some = 0, 0
        for seed in SEEDS:
            twins = Twins(seed)
            for k in range(90):
                twins.do_something()
            one, other = twins.answers_watched()
            self.assertEqual(one, other, seed)
            differ += twins.lists[0] != twins.lists[1]
            told_some += len([part for part in one if len(part) > 1])
        self.assertEqual(differ, len(SEEDS))
        self.assertGreater(told_some, 1000)

    def test_not_even_how_many_there_are_between(self):
        for mode in (0, 1):
            for order in range(4):
                reading = [opening(READ_BY, mode, order), left(READ_BY), onward(READ_BY, 0, 1), left(READ_BY),
                           onward(READ_BY, 0, 20), backward(READ_BY, 0, 1), left(READ_BY), backward(READ_BY)]
                seen = [add(READ_BY, 1, 1), add(0, 9, 9, FOR_READER)]
                for hidden in range(1, 30):
                    between = [add(2, 5, 5, 65535 & ~FOR_READER)] * hidden
                    self.assertEqual(behind([*seen, *between], *reading), behind(seen, *reading))


class WhatIsErased(unittest.TestCase):
    def test_it_is_told_by_no_reader_any_more(self):
        for seed in SEEDS:
            chance = random.Random(seed)
            things = [add(chance.randrange(4), *some_row(chance), 65535) for k in range(12)]
            readers = [opening(w, mode, chance.randrange(4)) for w in range(4) for mode in (0, 1)]
            moved = [onward(r // 2, r, chance.randrange(1, 13)) for r in range(8)]
            i = chance.randrange(12)
            first = [drop(things[i][1], i)] if chance.random() < .5 else []
            reading = [call for r in range(8) for call in (backward(r // 2, r), onward(r // 2, r))]
            parts = behind([*things, *readers, *moved, *first, erase(things[i][1], i)], *reading)
            for part in parts:
                self.assertNotIn(i, ids_of(part), seed)
            self.assertEqual({len(ids_of(part)) for part in parts[1::2]}, {11})


class NobodyElse(unittest.TestCase):
    def test_changes_drops_or_erases_what_is_not_theirs_nor_reads_by_anothers_reader(self):
        for owner in range(16):
            before = [add(owner, 3, 4, 65535), add(owner, 5, 6, 65535), opening(owner), onward(owner, 0, 1)]
            for w in [w for w in range(17) if w != owner]:
                tried = [change(w, 0, 8, 8, 0), drop(w, 0), erase(w, 0), onward(w), backward(w), left(w), close(w)]
                parts = behind(before, *tried, left(owner), backward(owner), onward(owner))
                self.assertEqual(parts, [[-1]] * 7 + [[1], [1, 0, 3, 4], [2, 0, 3, 4, 1, 5, 6]])


if __name__ == "__main__":
    unittest.main()

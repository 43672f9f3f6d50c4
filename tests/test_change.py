import unittest

from maysee.lists import Board
from tests.calls import TOP, add, change, drop, erase, firsts


def state(thing):
    return (thing.owner, thing.a, thing.b, thing.mask, thing.there, thing.erased)


class Set(unittest.TestCase):
    def test_one_that_is_there(self):
        self.assertEqual(firsts(add(3), change(3, 0, 1, 2, 3)), [0, 0])

    def test_again_and_with_the_same(self):
        self.assertEqual(firsts(add(3, 1, 2, 3), change(3, 0, 1, 2, 3), change(3, 0, 1, 2, 3)), [0, 0, 0])

    def test_the_greatest_numbers(self):
        told = firsts(add(15), change(15, 0, TOP, TOP, 65535), change(TOP, TOP, TOP, TOP, TOP))
        self.assertEqual(told, [0, 0, -2])

    def test_an_id_that_never_came(self):
        self.assertEqual(firsts(add(3), change(3, 1), change(3, TOP)), [0, -2, -2])

    def test_a_dropped_one(self):
        self.assertEqual(firsts(add(3), drop(3, 0), change(3, 0), change(4, 0)), [0, 0, -2, -2])

    def test_an_erased_one(self):
        self.assertEqual(firsts(add(3), erase(3, 0), change(3, 0), change(4, 0)), [0, 0, -2, -2])

    def test_somebody_elses(self):
        self.assertEqual(firsts(add(3), change(2, 0), change(16, 0), change(TOP, 0)), [0, -1, -1, -1])

    def test_somebody_elses_that_is_for_everybody(self):
        self.assertEqual(firsts(add(3, mask=65535), change(2, 0)), [0, -1])

    def test_mask_of_65535_and_of_65536(self):
        told = firsts(add(3), change(3, 0, mask=65535), change(3, 0, mask=65536), change(3, 0, mask=TOP))
        self.assertEqual(told, [0, 0, -22, -22])

    def test_no_thing_is_told_ahead_of_a_wrong_mask(self):
        self.assertEqual(firsts(change(3, 0, mask=65536), change(16, 0, mask=TOP)), [-2, -2])

    def test_not_theirs_is_told_ahead_of_a_wrong_mask(self):
        self.assertEqual(firsts(add(3), change(2, 0, mask=65536), change(16, 0, mask=TOP)), [0, -1, -1])

    def test_it_makes_nobody_else_its_owner(self):
        told = firsts(add(3), change(3, 0, mask=1 << 5), change(5, 0), drop(5, 0), erase(5, 0), drop(3, 0))
        self.assertEqual(told, [0, 0, -1, -1, -1, 0])

    def test_it_takes_no_id_and_no_room(self):
        told = firsts(*[add(1)] * 63, *[change(1, 0)] * 5, add(1), add(1))
        self.assertEqual(told, list(range(63)) + [0] * 5 + [63, -28])


class WhatIsChanged(unittest.TestCase):
    def setUp(self):
        self.board = Board()
        self.board.add(3, 10, 11, 12)
        self.board.add(3, 20, 21, 22)

    def states(self):
        return [state(thing) for thing in self.board.things]

    def test_that_thing_alone(self):
        self.assertEqual(self.board.change(3, 1, 5, TOP, 65535), 0)
        self.assertEqual(self.states(), [(3, 10, 11, 12, True, False), (3, 5, TOP, 65535, True, False)])

    def test_nothing_by_a_refused_one(self):
        before = self.states()
        self.assertEqual(self.board.change(3, 2, 5, 6, 7), -2)
        self.assertEqual(self.board.change(4, 0, 5, 6, 7), -1)
        self.assertEqual(self.board.change(3, 0, 5, 6, 65536), -22)
        self.assertEqual(self.states(), before)

    def test_nothing_of_a_dropped_one(self):
        self.board.drop(3, 0)
        before = self.states()
        self.assertEqual(self.board.change(3, 0, 5, 6, 7), -2)
        self.assertEqual(self.states(), before)
        self.assertEqual(before[0], (3, 10, 11, 12, False, False))

    def test_nothing_of_an_erased_one(self):
        self.board.erase(3, 0)
        before = self.states()
        self.assertEqual(self.board.change(3, 0, 5, 6, 7), -2)
        self.assertEqual(self.states(), before)


if __name__ == "__main__":
    unittest.main()

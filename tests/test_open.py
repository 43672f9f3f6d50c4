import unittest

from maysee.lists import Board
from tests.calls import (
    TOP, add, answered, begin, behind, change, close, drop, erase, firsts, ids_of, left, onward, opening, told)


class Open(unittest.TestCase):
    def test_numbers_rise_from_0_whoever_opens(self):
        self.assertEqual(firsts(opening(0), opening(9, 1), opening(0, 0, 3)), [0, 1, 2])

    def test_readers_are_numbered_apart_from_things(self):
        self.assertEqual(firsts(add(0), add(0), opening(0), add(0), opening(0)), [0, 1, 0, 2, 1])

    def test_w_of_15_and_of_16(self):
        self.assertEqual(firsts(opening(15), opening(16), opening(TOP)), [0, -22, -22])

    def test_mode_of_1_and_of_2(self):
        self.assertEqual(firsts(opening(1, 0), opening(1, 1), opening(1, 2), opening(1, TOP)), [0, 1, -22, -22])

    def test_order_of_3_and_of_4(self):
        self.assertEqual(firsts(opening(1, 0, 3), opening(1, 0, 4), opening(1, 1, TOP)), [0, -22, -22])

    def test_lo_equal_to_hi_and_above_it(self):
        told_of = firsts(
            opening(1, lo=5, hi=5), opening(1, lo=6, hi=5), opening(1, lo=TOP, hi=TOP), opening(1, lo=0, hi=0),
            opening(1, lo=TOP, hi=TOP - 1), opening(1, lo=1, hi=0))
        self.assertEqual(told_of, [0, -22, 1, 2, -22, -22])

    def test_the_order_of_the_calls_numbers(self):
        self.assertEqual(answered([0], [5, 15, 1, 3, 16, 17]), [[0], [0]])
        self.assertEqual(answered([0], [5, 16, 1, 3, 16, 17]), [[0], [-22]])
        self.assertEqual(answered([0], [5, 15, 2, 3, 16, 17]), [[0], [-22]])
        self.assertEqual(answered([0], [5, 15, 1, 4, 16, 17]), [[0], [-22]])
        self.assertEqual(answered([0], [5, 15, 1, 3, 17, 16]), [[0], [-22]])

    def test_a_refused_one_takes_no_number_and_no_room(self):
        calls = [opening(16), opening(1, 2), opening(1, 0, 4), opening(1, lo=1, hi=0)] * 3
        self.assertEqual(firsts(*calls, *[opening(1)] * 9), [-22] * 12 + list(range(8)) + [-28])

    def test_a_refused_one_is_no_reader(self):
        self.assertEqual(firsts(opening(16), left(16, 0), opening(1, 2), left(1, 0)), [-22, -2, -22, -2])


class Room(unittest.TestCase):
    def setUp(self):
        self.full = [opening(k, k % 2, k % 4) for k in range(8)]

    def test_the_8th_and_a_9th(self):
        self.assertEqual(firsts(*self.full, opening(0)), list(range(8)) + [-28])

    def test_wrong_numbers_are_told_ahead_of_no_room(self):
        told_of = firsts(
            *self.full, opening(16), opening(0, 2), opening(0, 0, 4), opening(0, lo=1, hi=0), opening(0))
        self.assertEqual(told_of[8:], [-22, -22, -22, -22, -28])

    def test_a_close_makes_room_for_one_and_its_number_is_not_given_again(self):
        told_of = firsts(*self.full, close(3, 3), opening(0), opening(0), left(3, 3), left(0, 8))
        self.assertEqual(told_of[8:], [0, 8, -28, -2, 0])

    def test_refused_closes_make_no_room(self):
        told_of = firsts(*self.full, close(4, 3), close(0, 8), close(3, 3), close(3, 3), opening(0), opening(0))
        self.assertEqual(told_of[8:], [-1, -2, 0, -2, 8, -28])

    def test_a_refused_one_for_no_room_takes_no_number(self):
        told_of = firsts(*self.full, opening(0), opening(0), left(0, 8), close(7, 7), opening(0))
        self.assertEqual(told_of[8:], [-28, -28, -2, 0, 8])

    def test_the_last_number_is_not_given_again(self):
        self.assertEqual(firsts(opening(1), close(1, 0), opening(1), close(1, 1), opening(1)), [0, 0, 1, 0, 2])

    def test_things_take_no_room_of_readers(self):
        told_of = firsts(*[add(1)] * 64, *self.full, opening(0), add(1))
        self.assertEqual(told_of, list(range(64)) + list(range(8)) + [-28, -28])

    def test_begin_in_the_midst(self):
        told_of = answered(
            begin(), *self.full, begin(), left(0, 0), onward(7, 7), close(3, 3), *self.full, opening(0))
        self.assertEqual(told_of[9:], [[0], [-2], [-2], [-2], *[[k] for k in range(8)], [-28]])

    def test_a_number_given_again_behind_begin_is_the_new_persons(self):
        self.assertEqual(firsts(opening(3), begin(), opening(4), left(3, 0), left(4, 0)), [0, 0, 0, -1, 0])


class Ever(unittest.TestCase):
    """No list of 400 calls gets there, so this asks the object itself."""

    def test_1000000_may_be_opened_and_no_more(self):
        board = Board()
        for k in range(999999):
            board.open_reader(1, 0, 0, 0, 0)
            board.close_reader(1, k)
        self.assertEqual(board.open_reader(1, 0, 0, 0, 0), 999999)
        self.assertEqual(board.open_reader(1, 0, 0, 0, 0), -28)
        self.assertEqual(board.close_reader(1, 999999), 0)
        self.assertEqual(board.open_reader(1, 1, 3, 0, TOP), -28)
        self.assertEqual(board.open_reader(1, 2, 0, 0, 0), -22)
        self.assertEqual(board.add(1, 0, 0, 0), 0)
        self.assertEqual(board.begin(), 0)
        self.assertEqual(board.open_reader(1, 0, 0, 0, 0), 0)


class WhatItReads(unittest.TestCase):
    def test_from_lo_to_hi_both_too(self):
        things = [add(1, a) for a in (4, 5, 6, 7, 8)]
        for mode in (0, 1):
            self.assertEqual(ids_of(behind([*things, opening(1, mode, 0, 5, 7)], onward(1))[0]), [1, 2, 3])

    def test_a_is_asked_of_also_in_the_orders_by_b(self):
        things = [add(1, 5, 100), add(1, 100, 5), add(1, 7, 0), add(1, 0, 7)]
        for mode in (0, 1):
            self.assertEqual(ids_of(behind([*things, opening(1, mode, 2, 5, 7)], onward(1))[0]), [2, 0])

    def test_what_its_person_may_see_theirs_or_for_them(self):
        things = [add(1), add(2), add(2, mask=0b10), add(2, mask=0b101), add(1, mask=0b100), add(2, mask=65535)]
        for mode in (0, 1):
            self.assertEqual(ids_of(behind([*things, opening(1, mode)], onward(1))[0]), [0, 2, 4, 5])

    def test_each_of_the_16_people(self):
        for w in range(16):
            things = [add((w + 1) % 16, mask=1 << k) for k in range(16)]
            self.assertEqual(ids_of(behind([*things, opening(w)], onward(w))[0]), [w])

    def test_mode_0_those_that_there_are_as_they_are(self):
        things = [add(1, 1, 1), add(1, 2, 2), add(1, 3, 3), add(1, 4, 4), opening(1)]
        changes = [change(1, 0, 9, 8), drop(1, 1), erase(1, 2), add(1, 0, 5)]
        self.assertEqual(behind([*things, *changes], onward(1))[0], told((4, 0, 5), (3, 4, 4), (0, 9, 8)))

    def test_mode_1_those_that_there_were_as_they_were(self):
        things = [add(1, 1, 1), add(1, 2, 2), add(1, 3, 3), add(1, 4, 4), opening(1, 1)]
        changes = [change(1, 0, 9, 8), drop(1, 1), erase(1, 2), add(1, 0, 5)]
        self.assertEqual(behind([*things, *changes], onward(1))[0], told((0, 1, 1), (1, 2, 2), (3, 4, 4)))

    def test_mode_1_reads_nothing_that_was_gone_when_it_was_opened(self):
        gone = [add(1, 1), add(1, 2), add(1, 3), drop(1, 0), erase(1, 1)]
        self.assertEqual(ids_of(behind([*gone, opening(1, 1)], onward(1))[0]), [2])

    def test_the_range_is_asked_of_the_numbers_that_are_read(self):
        things = [add(1, 5), add(1, 50)]
        moved = [change(1, 0, 50), change(1, 1, 5)]
        self.assertEqual(ids_of(behind([*things, opening(1, 0, 0, 0, 9), *moved], onward(1))[0]), [1])
        self.assertEqual(ids_of(behind([*things, opening(1, 1, 0, 0, 9), *moved], onward(1))[0]), [0])

    def test_sight_is_asked_each_time(self):
        things = [add(2, 1, 1, 0b10), add(2, 2, 2, 0)]
        turned = [change(2, 0, 1, 1, 0), change(2, 1, 2, 2, 0b10)]
        for mode in (0, 1):
            parts = behind([*things, opening(1, mode)], left(1), *turned, left(1), onward(1))
            self.assertEqual(parts, [[1], [0], [0], [1], told((1, 2, 2))])

    def test_mode_1_one_shown_since_has_its_numbers_of_then(self):
        parts = behind([add(2, 5, 6), opening(1, 1), change(2, 0, 7, 8, 0b10)], onward(1))
        self.assertEqual(parts, [told((0, 5, 6))])

    def test_mode_1_a_dropped_one_stays_theirs_and_for_whom_it_was_last(self):
        things = [add(2, 1, 1, 0b10), add(2, 2, 2, 0b1000)]
        readers = [opening(1, 1), opening(2, 1), opening(3, 1)]
        changes = [change(2, 0, 1, 1, 0b1000), change(2, 1, 2, 2, 0), drop(2, 0), drop(2, 1)]
        parts = behind([*things, *readers, *changes], onward(1, 0), onward(2, 1), onward(3, 2))
        self.assertEqual([ids_of(part) for part in parts], [[], [0, 1], [0]])

    def test_mode_1_is_as_of_its_own_opening(self):
        before = [add(1, 1), opening(1, 1), add(1, 2), opening(1, 1), change(1, 0, 3), opening(1, 1), drop(1, 0)]
        parts = behind(before, onward(1, 0), onward(1, 1), onward(1, 2))
        self.assertEqual(parts, [told((0, 1, 0)), told((0, 1, 0), (1, 2, 0)), told((1, 2, 0), (0, 3, 0))])

    def test_it_is_before_all_at_first_also_of_the_least(self):
        for order in range(4):
            before = [opening(1, 0, order), add(1, 0, 0), add(1, TOP, TOP)]
            self.assertEqual(behind(before, left(1), onward(1))[0], [2])


if __name__ == "__main__":
    unittest.main()

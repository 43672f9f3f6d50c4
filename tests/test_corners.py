"""The corners that the document lists, in both of its parts."""

import unittest

from tests.calls import (
    TOP, add, backward, behind, change, close, drop, erase, firsts, ids_of, left, onward, opening, told)


class OfWhoMay(unittest.TestCase):
    def test_a_thing_for_nobody_read_by_whose_it_is(self):
        for mode in (0, 1):
            before = [add(4, 1, 2, 0), opening(4, mode), opening(5, mode)]
            self.assertEqual(behind(before, onward(4, 0), onward(5, 1)), [told((0, 1, 2)), [0]])

    def test_a_thing_made_for_somebody_in_the_midst_ahead_of_their_place(self):
        before = [add(4, 1, 0, 0b100000), add(4, 2), add(4, 3, 0, 0b100000), opening(5), onward(5, 0, 1)]
        parts = behind(before, left(5), change(4, 1, 2, 0, 0b100000), left(5), onward(5))
        self.assertEqual(parts, [[1], [0], [2], told((1, 2, 0), (2, 3, 0))])

    def test_a_thing_made_for_somebody_in_the_midst_behind_their_place(self):
        before = [add(4, 1), add(4, 2, 0, 0b100000), opening(5), onward(5)]
        parts = behind(before, change(4, 0, 1, 0, 0b100000), onward(5), backward(5))
        self.assertEqual(parts, [[0], [0], told((0, 1, 0), (1, 2, 0))])

    def test_a_thing_made_for_somebody_in_the_midst_of_things_as_they_were(self):
        before = [add(4, 1), add(4, 2, 0, 0b100000), opening(5, 1), change(4, 0, 9, 9, 0b100000)]
        self.assertEqual(behind(before, onward(5)), [told((0, 1, 0), (1, 2, 0))])

    def test_one_taken_from_sight_behind_their_place_and_given_back(self):
        for mode in (0, 1):
            before = [*[add(4, k, k, 0b100000) for k in range(4)], opening(5, mode), onward(5, 0, 2)]
            parts = behind(
                before, change(4, 0, 0, 0, 0), left(5), change(4, 0, 0, 0, 0b100000), left(5), onward(5), backward(5))
            self.assertEqual(parts[1:4:2], [[2], [2]])
            self.assertEqual(ids_of(parts[4]), [2, 3])
            self.assertEqual(ids_of(parts[5]), [0, 1, 2, 3])

    def test_one_taken_from_sight_is_not_told_by_back(self):
        for mode in (0, 1):
            before = [*[add(4, k, k, 0b100000) for k in range(4)], opening(5, mode), onward(5, 0, 3)]
            self.assertEqual(ids_of(behind(before, change(4, 1, 1, 1, 0), backward(5))[1]), [0, 2])

    def test_a_dropped_thing_erased(self):
        before = [add(4, 1), add(4, 2), opening(4), opening(4, 1), drop(4, 0)]
        parts = behind(before, left(4, 0), left(4, 1), erase(4, 0), left(4, 0), left(4, 1), onward(4, 1))
        self.assertEqual(parts, [[1], [2], [0], [1], [1], told((1, 2, 0))])

    def test_one_erased_between_next_and_back(self):
        for mode in (0, 1):
            before = [*[add(4, k) for k in range(4)], opening(4, mode), onward(4, 0, 3)]
            parts = behind(before, erase(4, 1), backward(4, 0, 3), onward(4, 0, 3))
            self.assertEqual(ids_of(parts[1]), [0, 2])
            self.assertEqual(ids_of(parts[2]), [0, 2, 3])

    def test_things_as_they_were_of_which_one_is_hidden_since(self):
        before = [*[add(4, k, 0, 0b100000) for k in range(3)], opening(5, 1), opening(4, 1)]
        parts = behind(before, change(4, 1, 1, 0, 0), left(5, 0), onward(5, 0), onward(4, 1))
        self.assertEqual(parts[1], [2])
        self.assertEqual(ids_of(parts[2]), [0, 2])
        self.assertEqual(ids_of(parts[3]), [0, 1, 2])

    def test_things_as_they_were_of_which_one_is_hidden_and_dropped_since(self):
        before = [*[add(4, k, 0, 0b100000) for k in range(3)], opening(5, 1)]
        hidden = [change(4, 1, 1, 0, 0), drop(4, 1), drop(4, 2)]
        self.assertEqual(ids_of(behind([*before, *hidden], onward(5))[0]), [0, 2])

    def test_somebody_elses_reader(self):
        before = [add(4, 1, 0, 65535), add(4, 2, 0, 65535), opening(4), onward(4, 0, 1)]
        parts = behind(before, onward(5), backward(5), left(5), close(5), left(4))
        self.assertEqual(parts, [[-1], [-1], [-1], [-1], [1]])

    def test_the_last_thing_told_erased(self):
        for mode in (0, 1):
            before = [*[add(4, k) for k in range(4)], opening(4, mode), onward(4, 0, 2)]
            parts = behind(before, erase(4, 1), left(4), onward(4, 0, 1), backward(4))
            self.assertEqual(parts[1], [2])
            self.assertEqual(ids_of(parts[2]), [2])
            self.assertEqual(ids_of(parts[3]), [0, 2])

    def test_the_last_thing_told_hidden(self):
        for mode in (0, 1):
            before = [*[add(4, k, 0, 0b100000) for k in range(4)], opening(5, mode), onward(5, 0, 2)]
            parts = behind(before, change(4, 1, 1, 0, 0), left(5), onward(5, 0, 1), backward(5))
            self.assertEqual(parts[1], [2])
            self.assertEqual(ids_of(parts[2]), [2])
            self.assertEqual(ids_of(parts[3]), [0, 2])


class OfTheStage(unittest.TestCase):
    def setUp(self):
        self.before = [*[add(1, 10 * k, k) for k in range(5)], opening(1), onward(1, 0, 3)]

    def test_a_thing_changed_so_that_it_is_ahead_again(self):
        parts = behind(self.before, change(1, 0, 35, 7), onward(1))
        self.assertEqual(parts[1], told((3, 30, 3), (0, 35, 7), (4, 40, 4)))

    def test_a_thing_changed_so_that_it_is_behind(self):
        parts = behind(self.before, change(1, 4, 5, 7), onward(1), backward(1, 0, 4))
        self.assertEqual(parts[1:], [told((3, 30, 3)), told((4, 5, 7), (1, 10, 1), (2, 20, 2), (3, 30, 3))])

    def test_the_last_told_changed_so_that_it_is_ahead_or_behind(self):
        self.assertEqual(ids_of(behind(self.before, change(1, 2, 21), onward(1, 0, 1))[1]), [2])
        self.assertEqual(ids_of(behind(self.before, change(1, 2, 19), onward(1, 0, 1))[1]), [3])

    def test_a_thing_changed_but_for_its_number_in_the_order(self):
        parts = behind(self.before, change(1, 2, 20, 99), onward(1, 0, 1), backward(1, 0, 2))
        self.assertEqual(parts[1:], [told((3, 30, 3)), told((2, 20, 99), (3, 30, 3))])

    def test_one_that_comes_right_at_the_readers_place(self):
        parts = behind(self.before, add(1, 20), left(1), onward(1, 0, 1))
        self.assertEqual(parts, [[5], [3], told((5, 20, 0))])

    def test_one_that_comes_right_at_the_place_before_which_the_reader_is(self):
        parts = behind([*self.before, backward(1, 0, 1)], add(1, 20), left(1), onward(1, 0, 2))
        self.assertEqual(parts, [[5], [4], told((2, 20, 2), (5, 20, 0))])

    def test_one_of_a_lesser_id_that_is_changed_to_be_right_at_the_readers_place(self):
        parts = behind(self.before, change(1, 0, 20), left(1), backward(1, 0, 2))
        self.assertEqual(parts[1:], [[2], told((0, 20, 0), (2, 20, 2))])

    def test_one_of_a_lesser_id_that_is_changed_to_be_right_before_the_reader(self):
        parts = behind([*self.before, backward(1, 0, 1)], change(1, 0, 20), left(1), backward(1, 0, 1))
        self.assertEqual(parts[1:], [[3], told((0, 20, 0))])

    def test_the_thing_that_was_told_last_taken_away(self):
        parts = behind(self.before, drop(1, 2), left(1), add(1, 19), add(1, 20), onward(1, 0, 2), backward(1, 0, 20))
        self.assertEqual(parts[1], [2])
        self.assertEqual(ids_of(parts[4]), [6, 3])
        self.assertEqual(ids_of(parts[5]), [0, 1, 5, 6, 3])

    def test_the_thing_before_which_the_reader_is_taken_away(self):
        parts = behind([*self.before, backward(1, 0, 1)], drop(1, 2), left(1), onward(1, 0, 1))
        self.assertEqual(parts[1:], [[2], told((3, 30, 3))])

    def test_things_alike_in_their_order(self):
        before = [*[add(1, 7, k) for k in range(5)], opening(1), onward(1, 0, 2)]
        parts = behind(before, drop(1, 1), left(1), onward(1, 0, 1), backward(1, 0, 2))
        self.assertEqual(parts[1], [3])
        self.assertEqual(ids_of(parts[2]), [2])
        self.assertEqual(ids_of(parts[3]), [0, 2])

    def test_a_reader_of_nothing(self):
        for mode in (0, 1):
            for before in ([], [add(2, 5)], [add(1, 50)], [add(1, 5), erase(1, 0)]):
                parts = behind([*before, opening(1, mode, 0, 5, 9)], onward(1), backward(1), left(1), close(1))
                self.assertEqual(parts, [[0], [0], [0], [0]])

    def test_n_of_20_and_of_21(self):
        before = [*[add(1, k) for k in range(25)], opening(1)]
        parts = behind(before, onward(1, 0, 21), onward(1, 0, 20), backward(1, 0, 21), backward(1, 0, 20))
        self.assertEqual((parts[0], parts[2]), ([-22], [-22]))
        self.assertEqual(ids_of(parts[1]), list(range(20)))
        self.assertEqual(ids_of(parts[3]), list(range(20)))

    def test_back_at_the_beginning(self):
        parts = behind(self.before, backward(1), backward(1), onward(1, 0, 1))
        self.assertEqual([ids_of(part) for part in parts], [[0, 1, 2], [], [0]])

    def test_a_range_of_one_number(self):
        for number in (0, 7, TOP):
            things = [add(1, number, 3), add(1, number, 2), add(1, abs(number - 1), 1), add(1, number, 2)]
            for order, ids in enumerate(([0, 1, 3], [0, 1, 3], [1, 3, 0], [0, 1, 3])):
                before = [*things, opening(1, 0, order, number, number)]
                self.assertEqual(ids_of(behind(before, onward(1))[0]), ids)

    def test_numbers_of_2_to_32_less_1_in_a_falling_order(self):
        for order in (1, 3):
            before = [add(1, TOP, TOP), add(1, 0, 0), add(1, TOP, TOP), opening(1, 0, order)]
            parts = behind(before, backward(1), onward(1, 0, 1), left(1), add(1, TOP, TOP), onward(1), backward(1))
            self.assertEqual([parts[0], parts[2]], [[0], [2]])
            self.assertEqual(ids_of(parts[1]), [0])
            self.assertEqual(ids_of(parts[4]), [2, 3, 1])
            self.assertEqual(ids_of(parts[5]), [0, 2, 3, 1])

    def test_the_same_reader_closed_twice(self):
        self.assertEqual(firsts(opening(1), close(1), close(1)), [0, 0, -2])


if __name__ == "__main__":
    unittest.main()

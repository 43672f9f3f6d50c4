import unittest

from tests.calls import (
    TOP, add, begin, behind, change, close, drop, erase, ids_of, left, onward, opening, told)


class Next(unittest.TestCase):
    def setUp(self):
        self.before = [add(1, 30, 7), add(1, 10, 8), add(1, 20, 9), opening(1)]

    def test_id_a_and_b_of_the_first_n(self):
        self.assertEqual(behind(self.before, onward(1, 0, 2)), [told((1, 10, 8), (2, 20, 9))])

    def test_it_goes_on_from_where_it_was(self):
        parts = behind(self.before, onward(1, 0, 2), onward(1, 0, 2), onward(1, 0, 2), onward(1, 0, 2))
        self.assertEqual([ids_of(part) for part in parts], [[1, 2], [0], [], []])

    def test_all_if_there_are_fewer(self):
        self.assertEqual(ids_of(behind(self.before, onward(1, 0, 20))[0]), [1, 2, 0])

    def test_none_is_the_number_0_alone(self):
        self.assertEqual(behind(self.before, onward(1), onward(1))[1], [0])
        self.assertEqual(behind([opening(1)], onward(1)), [[0]])

    def test_where_it_was_if_there_is_none(self):
        parts = behind(self.before, onward(1), onward(1), add(1, 30), add(1, 29), onward(1))
        self.assertEqual(parts[-1], told((3, 30, 0)))

    def test_before_all_if_there_was_none_yet(self):
        parts = behind([opening(1)], onward(1), add(1, 0), onward(1))
        self.assertEqual(parts[-1], told((0, 0, 0)))

    def test_n_of_0_1_20_and_21(self):
        before = [*[add(1, k) for k in range(22)], opening(1)]
        parts = behind(before, onward(1, 0, 0), onward(1, 0, 1), onward(1, 0, 20), onward(1, 0, 21))
        self.assertEqual(parts[0], [-22])
        self.assertEqual(ids_of(parts[1]), [0])
        self.assertEqual(ids_of(parts[2]), list(range(1, 21)))
        self.assertEqual(parts[3], [-22])

    def test_n_far_too_great(self):
        self.assertEqual(behind(self.before, onward(1, 0, TOP)), [[-22]])

    def test_n_is_asked_of_also_where_nothing_is_there(self):
        self.assertEqual(behind([opening(1)], onward(1, 0, 0), onward(1, 0, 21)), [[-22], [-22]])

    def test_no_reader(self):
        self.assertEqual(behind([], onward(1, 0)), [[-2]])
        self.assertEqual(behind(self.before, onward(1, 1), onward(1, TOP)), [[-2], [-2]])

    def test_a_closed_reader(self):
        self.assertEqual(behind([*self.before, close(1)], onward(1), onward(2)), [[-2], [-2]])

    def test_a_reader_from_before_begin(self):
        self.assertEqual(behind([*self.before, begin()], onward(1)), [[-2]])

    def test_somebody_elses_reader(self):
        self.assertEqual(behind(self.before, onward(0), onward(2), onward(16), onward(TOP)), [[-1]] * 4)

    def test_somebody_elses_reader_of_what_is_for_everybody(self):
        self.assertEqual(behind([add(1, mask=65535), opening(1)], onward(2)), [[-1]])

    def test_no_reader_is_told_first(self):
        self.assertEqual(behind([], onward(1, 0, 0), onward(16, 0, 21)), [[-2], [-2]])

    def test_not_theirs_is_told_ahead_of_a_wrong_n(self):
        self.assertEqual(behind(self.before, onward(2, 0, 0), onward(2, 0, 21)), [[-1], [-1]])

    def test_a_refused_one_leaves_the_reader_where_it_was(self):
        refused = [onward(1, 0, 0), onward(1, 0, 21), onward(2, 0, 1), onward(1, 1, 1)]
        parts = behind([*self.before, onward(1, 0, 1)], *refused, left(1), onward(1, 0, 1))
        self.assertEqual(parts, [[-22], [-22], [-1], [-2], [2], told((2, 20, 9))])

    def test_readers_are_at_places_of_their_own(self):
        parts = behind([*self.before, opening(1)], onward(1, 0, 2), onward(1, 1, 1), onward(1, 0, 1), onward(1, 1, 1))
        self.assertEqual([ids_of(part) for part in parts], [[1, 2], [1], [0], [2]])

    def test_the_numbers_behind_the_call_are_w_r_n(self):
        before = [opening(9), opening(9), opening(9), add(9, 1), add(9, 2), add(9, 3)]
        self.assertEqual(ids_of(behind(before, [6, 9, 2, 1])[0]), [0])

    def test_what_is_hidden_is_passed_over_and_not_counted(self):
        hidden = [add(2, 11), add(2, 12), add(2, 19), add(2, 21)]
        parts = behind([*self.before, *hidden], onward(1, 0, 2), left(1), onward(1, 0, 2), left(1))
        self.assertEqual(parts, [told((1, 10, 8), (2, 20, 9)), [1], told((0, 30, 7)), [0]])

    def test_it_is_behind_the_last_that_was_told_not_behind_hidden_ones(self):
        before = [add(1, 1), add(2, 5), opening(1), onward(1)]
        parts = behind(before, add(1, 3), onward(1), change(2, 1, 5, 0, 0b10), onward(1))
        self.assertEqual(parts[1:], [told((2, 3, 0)), [0], told((1, 5, 0))])

    def test_mode_1_to_the_last_whatever_came_went_and_changed(self):
        before = [add(1, k, 9 - k) for k in range(5)] + [opening(1, 1), onward(1, 0, 2)]
        changes = [change(1, 3, 0, 0), drop(1, 2), add(1, 3), change(1, 0, 9), change(1, 4, 4, 5, 65535)]
        parts = behind([*before, *changes], onward(1, 0, 2), onward(1, 0, 2), onward(1, 0, 2))
        self.assertEqual(parts, [told((2, 2, 7), (3, 3, 6)), told((4, 4, 5)), [0]])

    def test_mode_1_an_erased_one_is_passed_over(self):
        before = [add(1, k) for k in range(5)] + [opening(1, 1), onward(1, 0, 1), erase(1, 1), drop(1, 2), erase(1, 2)]
        self.assertEqual(behind(before, left(1), onward(1, 0, 1), onward(1)), [[2], told((3, 3, 0)), told((4, 4, 0))])


if __name__ == "__main__":
    unittest.main()

import unittest

from tests.calls import (
    TOP, add, backward, begin, behind, change, close, drop, erase, ids_of, left, onward, opening, told)


class Back(unittest.TestCase):
    def setUp(self):
        self.before = [add(1, 30, 7), add(1, 10, 8), add(1, 20, 9), opening(1), onward(1)]

    def test_the_last_n_told_in_order(self):
        self.assertEqual(behind(self.before, backward(1, 0, 2)), [told((2, 20, 9), (0, 30, 7))])

    def test_it_goes_on_from_where_it_was(self):
        parts = behind(self.before, backward(1, 0, 2), backward(1, 0, 2), backward(1, 0, 2), backward(1, 0, 2))
        self.assertEqual([ids_of(part) for part in parts], [[2, 0], [1], [], []])

    def test_all_if_there_are_fewer(self):
        self.assertEqual(ids_of(behind(self.before, backward(1, 0, 20))[0]), [1, 2, 0])

    def test_it_is_right_before_the_first_that_was_told(self):
        parts = behind(self.before, backward(1, 0, 2), left(1), onward(1, 0, 1), left(1))
        self.assertEqual(parts[1:], [[2], told((2, 20, 9)), [1]])

    def test_at_the_beginning_the_number_0_alone(self):
        self.assertEqual(behind(self.before[:4], backward(1), backward(1)), [[0], [0]])
        self.assertEqual(behind([opening(1)], backward(1)), [[0]])

    def test_where_it_was_if_there_is_none(self):
        parts = behind(self.before, backward(1), backward(1), left(1), add(1, 9), add(1, 10), left(1), backward(1))
        self.assertEqual(parts[1:], [[0], [3], [3], [4], [4], told((3, 9, 0))])

    def test_before_all_if_it_never_went_on(self):
        parts = behind([opening(1)], backward(1), add(1, 0), backward(1), left(1))
        self.assertEqual(parts, [[0], [0], [0], [1]])

    def test_n_of_0_1_20_and_21(self):
        before = [*[add(1, k) for k in range(22)], opening(1), onward(1), onward(1)]
        parts = behind(before, backward(1, 0, 0), backward(1, 0, 1), backward(1, 0, 20), backward(1, 0, 21))
        self.assertEqual(parts[0], [-22])
        self.assertEqual(ids_of(parts[1]), [21])
        self.assertEqual(ids_of(parts[2]), list(range(1, 21)))
        self.assertEqual(parts[3], [-22])

    def test_n_far_too_great(self):
        self.assertEqual(behind(self.before, backward(1, 0, TOP)), [[-22]])

    def test_n_is_asked_of_also_where_nothing_is_there(self):
        self.assertEqual(behind([opening(1)], backward(1, 0, 0), backward(1, 0, 21)), [[-22], [-22]])

    def test_no_reader(self):
        self.assertEqual(behind([], backward(1, 0)), [[-2]])
        self.assertEqual(behind(self.before, backward(1, 1), backward(1, TOP)), [[-2], [-2]])

    def test_a_closed_reader(self):
        self.assertEqual(behind([*self.before, close(1)], backward(1), backward(2)), [[-2], [-2]])

    def test_a_reader_from_before_begin(self):
        self.assertEqual(behind([*self.before, begin()], backward(1)), [[-2]])

    def test_somebody_elses_reader(self):
        parts = behind(self.before, backward(0), backward(2), backward(16), backward(TOP))
        self.assertEqual(parts, [[-1]] * 4)

    def test_no_reader_is_told_first(self):
        self.assertEqual(behind([], backward(1, 0, 0), backward(16, 0, 21)), [[-2], [-2]])

    def test_not_theirs_is_told_ahead_of_a_wrong_n(self):
        self.assertEqual(behind(self.before, backward(2, 0, 0), backward(2, 0, 21)), [[-1], [-1]])

    def test_a_refused_one_leaves_the_reader_where_it_was(self):
        refused = [backward(1, 0, 0), backward(1, 0, 21), backward(2, 0, 1), backward(1, 1, 1)]
        parts = behind([*self.before, backward(1, 0, 1)], *refused, left(1), backward(1, 0, 1))
        self.assertEqual(parts, [[-22], [-22], [-1], [-2], [1], told((2, 20, 9))])

    def test_the_numbers_behind_the_call_are_w_r_n(self):
        before = [opening(9), opening(9), opening(9), add(9, 1), add(9, 2), add(9, 3), onward(9, 2)]
        self.assertEqual(ids_of(behind(before, [7, 9, 2, 1])[0]), [2])

    def test_what_is_hidden_is_passed_over_and_not_counted(self):
        hidden = [add(2, 11), add(2, 12), add(2, 19), add(2, 21)]
        parts = behind([*self.before, *hidden], backward(1, 0, 2), backward(1, 0, 2), left(1))
        self.assertEqual([parts[0], parts[1], parts[2]], [told((2, 20, 9), (0, 30, 7)), told((1, 10, 8)), [3]])

    def test_it_is_before_the_first_that_was_told_not_before_hidden_ones(self):
        before = [add(2, 1), add(1, 5), opening(1), onward(1), backward(1)]
        parts = behind(before, add(1, 3), left(1), backward(1), change(2, 0, 1, 0, 0b10), backward(1))
        self.assertEqual(parts[1:], [[1], told((2, 3, 0)), [0], told((0, 1, 0))])

    def test_it_tells_also_what_came_behind_its_place(self):
        parts = behind(self.before, add(1, 15), add(1, 31), backward(1, 0, 3), left(1))
        self.assertEqual(parts[2:], [told((3, 15, 0), (2, 20, 9), (0, 30, 7)), [4]])

    def test_mode_1_whatever_came_went_and_changed(self):
        before = [add(1, k, 9 - k) for k in range(5)] + [opening(1, 1), onward(1)]
        changes = [change(1, 3, 0, 0), drop(1, 2), add(1, 3), change(1, 0, 9)]
        parts = behind([*before, *changes], backward(1, 0, 2), backward(1, 0, 2), backward(1, 0, 2))
        self.assertEqual(parts, [told((3, 3, 6), (4, 4, 5)), told((1, 1, 8), (2, 2, 7)), told((0, 0, 9))])

    def test_mode_1_an_erased_one_is_passed_over(self):
        before = [add(1, k) for k in range(5)] + [opening(1, 1), onward(1), erase(1, 3), drop(1, 2), erase(1, 2)]
        self.assertEqual(behind(before, backward(1, 0, 2), backward(1)), [told((1, 1, 0), (4, 4, 0)), told((0, 0, 0))])


if __name__ == "__main__":
    unittest.main()

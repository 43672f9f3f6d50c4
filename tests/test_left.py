import unittest

from tests.calls import TOP, add, backward, begin, behind, change, close, drop, erase, left, onward, opening


class Left(unittest.TestCase):
    def setUp(self):
        self.before = [*[add(1, k) for k in range(5)], opening(1)]

    def test_how_many_are_ahead(self):
        self.assertEqual(behind(self.before, left(1)), [[5]])

    def test_behind_next_and_back(self):
        parts = behind(self.before, onward(1, 0, 3), left(1), backward(1, 0, 1), left(1), onward(1), left(1))
        self.assertEqual(parts[1::2], [[2], [3], [0]])

    def test_it_goes_nowhere(self):
        self.assertEqual(behind([*self.before, onward(1, 0, 2)], left(1), left(1), left(1)), [[3]] * 3)

    def test_more_than_20(self):
        self.assertEqual(behind([*[add(1)] * 64, opening(1), opening(1, 1)], left(1, 0), left(1, 1)), [[64], [64]])

    def test_nothing(self):
        self.assertEqual(behind([opening(1), opening(1, 1)], left(1, 0), left(1, 1)), [[0], [0]])

    def test_only_what_it_reads(self):
        things = [add(2, 1), add(2, 2, mask=0b10), add(1, 3), add(1, 99)]
        self.assertEqual(behind([*things, opening(1, 0, 0, 0, 9)], left(1)), [[2]])

    def test_as_it_is_and_as_it_was(self):
        changes = [drop(1, 0), erase(1, 1), add(1, 7), add(1, 8), add(1, 9)]
        parts = behind([*self.before, opening(1, 1), *changes], left(1, 0), left(1, 1))
        self.assertEqual(parts, [[6], [4]])

    def test_what_went_behind_or_ahead_counts_where_it_is(self):
        before = [*self.before, onward(1, 0, 3)]
        self.assertEqual(behind(before, change(1, 4, 0), left(1), change(1, 0, 9), left(1)), [[0], [1], [0], [2]])

    def test_no_reader(self):
        self.assertEqual(behind([], left(1)), [[-2]])
        self.assertEqual(behind(self.before, left(1, 1), left(1, TOP), left(TOP, TOP)), [[-2]] * 3)

    def test_a_closed_reader(self):
        self.assertEqual(behind([*self.before, close(1)], left(1), left(2)), [[-2], [-2]])

    def test_a_reader_from_before_begin(self):
        self.assertEqual(behind([*self.before, begin()], left(1)), [[-2]])

    def test_somebody_elses_reader(self):
        self.assertEqual(behind(self.before, left(0), left(2), left(16), left(TOP)), [[-1]] * 4)

    def test_the_numbers_behind_the_call_are_w_r(self):
        before = [opening(9), opening(8), opening(7), add(7)]
        self.assertEqual(behind(before, [8, 7, 2], [8, 2, 7]), [[1], [-2]])


if __name__ == "__main__":
    unittest.main()

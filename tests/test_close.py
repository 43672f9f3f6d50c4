import unittest

from tests.calls import TOP, add, backward, begin, behind, close, firsts, left, onward, opening


class Close(unittest.TestCase):
    def test_one_that_is_there(self):
        self.assertEqual(firsts(opening(1), close(1)), [0, 0])

    def test_there_is_no_such_reader_behind_it(self):
        parts = behind([add(1), opening(1), close(1)], onward(1), backward(1), left(1), close(1))
        self.assertEqual(parts, [[-2]] * 4)

    def test_the_others_stay_where_they_were(self):
        before = [add(1, 1), add(1, 2), opening(1), opening(1), opening(1), onward(1, 2, 1), close(1, 1)]
        self.assertEqual(behind(before, left(1, 0), left(1, 1), left(1, 2)), [[2], [-2], [1]])

    def test_twice(self):
        self.assertEqual(firsts(opening(1), close(1), close(1), close(1)), [0, 0, -2, -2])

    def test_its_number_is_never_given_again(self):
        self.assertEqual(firsts(opening(1), close(1), opening(1), left(1, 0), left(1, 1)), [0, 0, 1, -2, 0])

    def test_no_reader(self):
        self.assertEqual(firsts(close(1), opening(1), close(1, 1), close(1, TOP), close(TOP, TOP)), [-2, 0, -2, -2, -2])

    def test_a_reader_from_before_begin(self):
        self.assertEqual(firsts(opening(1), begin(), close(1)), [0, 0, -2])

    def test_somebody_elses_reader(self):
        self.assertEqual(firsts(opening(1), close(0), close(2), close(16), close(TOP)), [0, -1, -1, -1, -1])

    def test_somebody_elses_that_is_closed_is_no_reader(self):
        self.assertEqual(firsts(opening(1), close(1), close(2)), [0, 0, -2])

    def test_a_refused_one_changes_nothing(self):
        before = [add(1, 1), add(1, 2), opening(1), onward(1, 0, 1)]
        self.assertEqual(behind(before, close(2), close(1, 1), left(1), close(1)), [[-1], [-2], [1], [0]])

    def test_the_numbers_behind_the_call_are_w_r(self):
        before = [opening(9), opening(8), opening(7)]
        self.assertEqual(behind(before, [9, 2, 7], [9, 7, 2], left(7, 2), left(9, 0)), [[-2], [0], [-2], [0]])


if __name__ == "__main__":
    unittest.main()

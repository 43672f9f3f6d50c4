import unittest

from tests.calls import TOP, add, change, drop, erase, firsts


class Erase(unittest.TestCase):
    def test_one_that_is_there(self):
        self.assertEqual(firsts(add(3), erase(3, 0)), [0, 0])

    def test_it_is_not_there_any_more(self):
        self.assertEqual(firsts(add(3), erase(3, 0), change(3, 0), drop(3, 0)), [0, 0, -2, -2])

    def test_again(self):
        self.assertEqual(firsts(add(3), erase(3, 0), erase(3, 0), erase(3, 0)), [0, 0, -17, -17])

    def test_a_dropped_one_and_again(self):
        told = firsts(add(3), drop(3, 0), erase(3, 0), erase(3, 0), drop(3, 0), change(3, 0))
        self.assertEqual(told, [0, 0, 0, -17, -2, -2])

    def test_the_others_stay(self):
        told = firsts(add(3), add(3), add(3), erase(3, 1), change(3, 0), change(3, 2), erase(3, 0), erase(3, 2))
        self.assertEqual(told, [0, 1, 2, 0, 0, 0, 0, 0])

    def test_an_id_that_never_came(self):
        told = firsts(erase(3, 0), add(3), erase(3, 1), erase(3, TOP), erase(TOP, TOP))
        self.assertEqual(told, [-2, 0, -2, -2, -2])

    def test_somebody_elses(self):
        self.assertEqual(firsts(add(3, mask=65535), erase(2, 0), erase(16, 0), erase(TOP, 0)), [0, -1, -1, -1])

    def test_somebody_elses_that_was_dropped(self):
        self.assertEqual(firsts(add(3, mask=65535), drop(3, 0), erase(2, 0), erase(3, 0)), [0, 0, -1, 0])

    def test_not_theirs_is_told_ahead_of_erased(self):
        self.assertEqual(firsts(add(3), erase(3, 0), erase(2, 0), erase(16, 0), erase(3, 0)), [0, 0, -1, -1, -17])

    def test_a_refused_one_changes_nothing(self):
        told = firsts(add(3), erase(2, 0), erase(3, 1), change(3, 0), drop(3, 0), erase(3, 0))
        self.assertEqual(told, [0, -1, -2, 0, 0, 0])


if __name__ == "__main__":
    unittest.main()

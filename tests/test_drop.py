import unittest

from tests.calls import TOP, add, change, drop, erase, firsts


class Drop(unittest.TestCase):
    def test_one_that_is_there(self):
        self.assertEqual(firsts(add(3), drop(3, 0)), [0, 0])

    def test_it_is_not_there_any_more(self):
        self.assertEqual(firsts(add(3), drop(3, 0), drop(3, 0), change(3, 0)), [0, 0, -2, -2])

    def test_the_others_stay(self):
        told = firsts(add(3), add(3), add(3), drop(3, 1), change(3, 0), change(3, 2), drop(3, 0), drop(3, 2))
        self.assertEqual(told, [0, 1, 2, 0, 0, 0, 0, 0])

    def test_an_id_that_never_came(self):
        self.assertEqual(firsts(add(3), drop(3, 1), drop(3, TOP), drop(TOP, TOP)), [0, -2, -2, -2])

    def test_an_erased_one(self):
        self.assertEqual(firsts(add(3), erase(3, 0), drop(3, 0)), [0, 0, -2])

    def test_somebody_elses(self):
        self.assertEqual(firsts(add(3, mask=65535), drop(2, 0), drop(16, 0), drop(TOP, 0)), [0, -1, -1, -1])

    def test_somebody_elses_that_is_gone_is_no_thing(self):
        told = firsts(add(3), add(3), drop(3, 0), erase(3, 1), drop(2, 0), drop(2, 1))
        self.assertEqual(told, [0, 1, 0, 0, -2, -2])

    def test_a_refused_one_changes_nothing(self):
        self.assertEqual(firsts(add(3), drop(2, 0), drop(3, 1), change(3, 0), drop(3, 0)), [0, -1, -2, 0, 0])


if __name__ == "__main__":
    unittest.main()

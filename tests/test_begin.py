import unittest

from tests.calls import add, answered, begin, change, drop, erase, firsts


class Begin(unittest.TestCase):
    def test_answers_0(self):
        self.assertEqual(answered(begin()), [[0]])

    def test_may_come_again_at_once(self):
        self.assertEqual(firsts(begin(), begin()), [0, 0])

    def test_nothing_is_there_at_first(self):
        self.assertEqual(firsts(change(0, 0), drop(0, 0), erase(0, 0)), [-2, -2, -2])

    def test_in_the_midst_nothing_is_there_behind_it(self):
        told = firsts(add(3), add(3), begin(), change(3, 0), drop(3, 1), erase(3, 0))
        self.assertEqual(told, [0, 1, 0, -2, -2, -2])

    def test_in_the_midst_what_was_dropped_or_erased_never_came(self):
        told = firsts(add(3), drop(3, 0), add(3), erase(3, 1), begin(), erase(3, 0), erase(3, 1))
        self.assertEqual(told, [0, 0, 1, 0, 0, -2, -2])

    def test_ids_start_at_0_again(self):
        self.assertEqual(firsts(add(3), add(3), begin(), add(4), add(4)), [0, 1, 0, 0, 1])

    def test_an_id_given_again_is_the_new_owners(self):
        told = firsts(add(3), begin(), add(4), drop(3, 0), erase(3, 0), drop(4, 0))
        self.assertEqual(told, [0, 0, 0, -1, -1, 0])

    def test_there_is_room_for_64_again(self):
        told = firsts(*[add(1)] * 65, begin(), *[add(1)] * 65)
        self.assertEqual(told, list(range(64)) + [-28, 0] + list(range(64)) + [-28])


if __name__ == "__main__":
    unittest.main()

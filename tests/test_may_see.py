import unittest

from maysee.lists import Board


class MaySee(unittest.TestCase):
    def setUp(self):
        self.board = Board()

    def who(self, i):
        return [w for w in range(16) if self.board.things[i].seen_by(w)]

    def test_one_for_nobody_is_seen_by_its_owner(self):
        self.board.add(4, 0, 0, 0)
        self.assertEqual(self.who(0), [4])

    def test_bit_k_is_for_person_k(self):
        for k in range(16):
            self.board.add(0, 0, 0, 1 << k)
            self.assertEqual(self.who(k), sorted({0, k}))

    def test_several(self):
        self.board.add(4, 0, 0, 0b1000000000000011)
        self.assertEqual(self.who(0), [0, 1, 4, 15])

    def test_everybody(self):
        self.board.add(4, 0, 0, 65535)
        self.assertEqual(self.who(0), list(range(16)))

    def test_set_tells_anew_for_whom(self):
        self.board.add(4, 0, 0, 0b11)
        self.board.change(4, 0, 0, 0, 0b100)
        self.assertEqual(self.who(0), [2, 4])

    def test_a_dropped_one_stays_for_whom_it_was_last(self):
        self.board.add(4, 0, 0, 0b11)
        self.board.change(4, 0, 0, 0, 0b100)
        self.board.drop(4, 0)
        self.board.change(4, 0, 0, 0, 0b1000)
        self.assertEqual(self.who(0), [2, 4])

    def test_an_erased_one_is_seen_by_nobody(self):
        self.board.add(4, 0, 0, 65535)
        self.board.erase(4, 0)
        self.assertEqual(self.who(0), [])

    def test_a_dropped_and_erased_one_is_seen_by_nobody(self):
        self.board.add(4, 0, 0, 65535)
        self.board.drop(4, 0)
        self.board.erase(4, 0)
        self.assertEqual(self.who(0), [])


if __name__ == "__main__":
    unittest.main()

import unittest

from maysee.lists import Board
from tests.calls import TOP, add, drop, erase, firsts


class Add(unittest.TestCase):
    def test_ids_rise_from_0_whoever_adds(self):
        self.assertEqual(firsts(add(0, 5, 6, 7), add(9, 1, 2, 3), add(0)), [0, 1, 2])

    def test_things_alike_are_things_of_their_own(self):
        self.assertEqual(firsts(add(2, 5, 6, 7), add(2, 5, 6, 7), drop(2, 0), drop(2, 1)), [0, 1, 0, 0])

    def test_w_of_15_and_of_16(self):
        self.assertEqual(firsts(add(15), add(16), add(TOP)), [0, -22, -22])

    def test_mask_of_65535_and_of_65536(self):
        told = firsts(add(1, mask=65535), add(1, mask=65536), add(1, mask=TOP))
        self.assertEqual(told, [0, -22, -22])

    def test_w_and_mask_both_wrong(self):
        self.assertEqual(firsts(add(16, mask=65536)), [-22])

    def test_the_greatest_numbers(self):
        self.assertEqual(firsts(add(15, TOP, TOP, 65535), add(TOP, TOP, TOP, TOP)), [0, -22])

    def test_a_refused_one_takes_no_id(self):
        self.assertEqual(firsts(add(16), erase(16, 0), add(1, mask=65536), add(1), add(1)), [-22, -2, -22, 0, 1])

    def test_an_id_is_never_given_again(self):
        told = firsts(add(1), drop(1, 0), add(1), erase(1, 1), add(1), drop(1, 2), erase(1, 2), add(1))
        self.assertEqual(told, [0, 0, 1, 0, 2, 0, 0, 3])

    def test_it_has_its_numbers_its_owner_and_its_mask(self):
        board = Board()
        board.add(3, TOP, 7, 65535)
        thing = board.things[0]
        self.assertEqual((thing.owner, thing.a, thing.b, thing.mask), (3, TOP, 7, 65535))


class Room(unittest.TestCase):
    def setUp(self):
        self.full = [add(k % 16) for k in range(64)]

    def last(self, *calls):
        return firsts(*self.full, *calls)[64:]

    def test_the_64th_and_a_65th(self):
        self.assertEqual(firsts(*self.full, add(0)), list(range(64)) + [-28])

    def test_a_refused_one_takes_no_id(self):
        self.assertEqual(self.last(add(0), erase(0, 64), drop(0, 0), add(0)), [-28, -2, 0, 64])

    def test_wrong_numbers_are_told_ahead_of_no_room(self):
        self.assertEqual(self.last(add(16), add(0, mask=65536), add(0)), [-22, -22, -28])

    def test_wrong_numbers_take_no_room(self):
        told = firsts(*[add(16)] * 70, *[add(0, mask=65536)] * 70, *self.full, add(0))
        self.assertEqual(told, [-22] * 140 + list(range(64)) + [-28])

    def test_a_drop_makes_room_for_one(self):
        self.assertEqual(self.last(drop(5, 5), add(0), add(0)), [0, 64, -28])

    def test_an_erase_makes_room_for_one(self):
        self.assertEqual(self.last(erase(5, 5), add(0), add(0)), [0, 64, -28])

    def test_a_drop_and_an_erase_of_one_thing_make_room_for_one(self):
        self.assertEqual(self.last(drop(5, 5), erase(5, 5), add(0), add(0)), [0, 0, 64, -28])

    def test_refused_drops_and_erases_make_no_room(self):
        told = self.last(drop(4, 5), erase(4, 5), drop(0, 64), erase(0, 64), add(0))
        self.assertEqual(told, [-1, -1, -2, -2, -28])

    def test_a_second_drop_or_erase_makes_no_more_room(self):
        told = self.last(drop(5, 5), drop(5, 5), erase(6, 6), erase(6, 6), drop(6, 6), add(0), add(0), add(0))
        self.assertEqual(told, [0, -2, 0, -17, -2, 64, 65, -28])

    def test_more_than_64_may_come(self):
        told = firsts(*[call for k in range(150) for call in (add(0), drop(0, k))])
        self.assertEqual(told, [number for k in range(150) for number in (k, 0)])


class Ever(unittest.TestCase):
    """No list of 400 calls gets there, so this asks the object itself."""

    def test_1000000_may_come_and_no_more(self):
        board = Board()
        for k in range(999999):
            board.add(1, 0, 0, 0)
            board.drop(1, k)
        self.assertEqual(board.add(1, 0, 0, 0), 999999)
        self.assertEqual(board.drop(1, 999999), 0)
        self.assertEqual(board.add(1, 0, 0, 0), -28)
        self.assertEqual(board.add(16, 0, 0, 0), -22)
        self.assertEqual(board.erase(1, 1000000), -2)
        self.assertEqual(board.begin(), 0)
        self.assertEqual(board.add(1, 0, 0, 0), 0)


if __name__ == "__main__":
    unittest.main()

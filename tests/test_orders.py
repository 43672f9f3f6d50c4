import unittest

from tests.calls import TOP, add, backward, behind, ids_of, onward, opening

# Rows a, b; ids are their places here. Alike by a: 0 and 3, 1 and 4; alike by b: 1 and 3, 2 and 5.
ROWS = ((5, 40), (2, 10), (9, 20), (5, 10), (2, 30), (TOP, 20), (0, TOP))
BY_ORDER = (
    [6, 1, 4, 0, 3, 2, 5],
    [5, 2, 0, 3, 1, 4, 6],
    [1, 3, 2, 5, 4, 0, 6],
    [6, 0, 4, 2, 5, 1, 3],
)


def readers(mode, order):
    return [*[add(1, a, b) for a, b in ROWS], opening(1, mode, order)]


class Orders(unittest.TestCase):
    def test_forwards_at_once(self):
        for mode in (0, 1):
            for order in range(4):
                self.assertEqual(ids_of(behind(readers(mode, order), onward(1))[0]), BY_ORDER[order], order)

    def test_forwards_by_pieces(self):
        for order in range(4):
            for n in (1, 2, 3, 4):
                parts = behind(readers(0, order), *[onward(1, 0, n)] * 7)
                self.assertEqual([i for part in parts for i in ids_of(part)], BY_ORDER[order], (order, n))

    def test_back_at_once_is_told_in_order_too(self):
        for mode in (0, 1):
            for order in range(4):
                self.assertEqual(ids_of(behind([*readers(mode, order), onward(1)], backward(1))[0]), BY_ORDER[order])

    def test_back_by_pieces(self):
        for order in range(4):
            for n in (1, 2, 3, 4):
                parts = behind([*readers(0, order), onward(1)], *[backward(1, 0, n)] * 7)
                pieces = [ids_of(part) for part in reversed(parts)]
                self.assertEqual([i for piece in pieces for i in piece], BY_ORDER[order], (order, n))

    def test_things_alike_the_lesser_id_is_before_in_every_order(self):
        for order in range(4):
            before = [*[add(1, 7, 7)] * 4, opening(1, 0, order)]
            parts = behind(before, onward(1, 0, 1), onward(1, 0, 2), backward(1, 0, 2), onward(1), backward(1))
            self.assertEqual([ids_of(part) for part in parts], [[0], [1, 2], [1, 2], [1, 2, 3], [0, 1, 2, 3]], order)

    def test_the_greatest_numbers_in_a_falling_order(self):
        for order in (1, 3):
            before = [add(1, TOP, TOP), add(1, TOP - 1, TOP - 1), add(1, 0, 0), add(1, TOP, TOP), opening(1, 0, order)]
            parts = behind(before, onward(1, 0, 1), onward(1, 0, 1), onward(1, 0, 2), backward(1, 0, 3), backward(1))
            self.assertEqual([ids_of(part) for part in parts], [[0], [3], [1, 2], [3, 1, 2], [0]], order)

    def test_the_greatest_numbers_in_a_rising_order(self):
        for order in (0, 2):
            before = [add(1, TOP, TOP), add(1, TOP - 1, TOP - 1), add(1, 0, 0), add(1, TOP, TOP), opening(1, 0, order)]
            parts = behind(before, onward(1, 0, 1), onward(1, 0, 1), onward(1, 0, 2), backward(1, 0, 3), backward(1))
            self.assertEqual([ids_of(part) for part in parts], [[2], [1], [0, 3], [1, 0, 3], [2]], order)

    def test_several_readers_in_orders_of_their_own(self):
        before = [*readers(0, 0), *[opening(1, 0, order) for order in (1, 2, 3)]]
        parts = behind(before, *[onward(1, r, 3) for r in range(4)], *[onward(1, r, 3) for r in range(4)])
        self.assertEqual([ids_of(part) for part in parts],
                         [BY_ORDER[r][:3] for r in range(4)] + [BY_ORDER[r][3:6] for r in range(4)])


if __name__ == "__main__":
    unittest.main()

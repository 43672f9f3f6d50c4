import contextlib
import io
import unittest
from unittest import mock

import maysee.lists
from maysee.lists import Board, answer_of, answers
from tests.calls import (
    TOP, add, answered, backward, begin, change, close, drop, erase, joined, left, onward, opening)
from tests.words import all_answers

ALL_KINDS = joined([
    begin(), add(3, 1, 2, 3), add(16), change(3, 0, 4, 5, 6), change(2, 0), drop(3, 0), drop(3, 0),
    erase(3, 0), erase(3, 0), begin(), add(15, TOP, TOP, 65535), add(4, 7, 8),
    opening(4, 1, 3), opening(4, 2), onward(4, 0, 20), onward(4, 0, 0), onward(4, 0, 1), backward(4, 0, 1),
    backward(5, 0, 1), left(4, 0), left(4, 1), close(4, 0), close(4, 0),
])
ALL_KINDS_TOLD = [
    1, 0, 1, 0, 1, -22, 1, 0, 1, -1, 1, 0, 1, -2, 1, 0, 1, -17, 1, 0, 1, 0, 1, 1,
    1, 0, 1, -22, 7, 2, 0, TOP, TOP, 1, 7, 8, 1, -22, 1, 0, 4, 1, 1, 7, 8,
    1, -1, 1, 1, 1, -2, 1, 0, 1, -2,
]


class Interface(unittest.TestCase):
    def test_the_numbers_as_the_document_writes_them(self):
        calls = [0, 1, 7, 10, 20, 3, 2, 7, 0, 11, 21, 5, 3, 7, 0, 4, 7, 0]
        self.assertEqual(answers(calls), [1, 0, 1, 0, 1, 0, 1, 0, 1, 0])
        calls = [0, 1, 7, 10, 20, 3, 5, 7, 0, 1, 10, 10, 6, 7, 0, 1, 7, 7, 0, 1, 8, 7, 0, 9, 7, 0]
        self.assertEqual(answers(calls), [1, 0, 1, 0, 1, 0, 4, 1, 0, 10, 20, 4, 1, 0, 10, 20, 1, 1, 1, 0])

    def test_the_order_of_a_calls_numbers(self):
        self.assertEqual(answers([0, 1, 15, 16, 16, 0]), [1, 0, 1, 0])
        self.assertEqual(answers([0, 1, 0, 65536, 65536, 65535]), [1, 0, 1, 0])
        self.assertEqual(answers([0, 1, 9, 0, 0, 0, 2, 9, 0, 65536, 65536, 0]), [1, 0, 1, 0, 1, 0])
        self.assertEqual(answers([0, 1, 9, 0, 0, 0, 3, 0, 9]), [1, 0, 1, 0, 1, -2])
        self.assertEqual(answers([0, 1, 9, 0, 0, 0, 4, 0, 9]), [1, 0, 1, 0, 1, -2])
        self.assertEqual(answers([0, 5, 9, 1, 3, 16, 17, 6, 0, 9, 1]), [1, 0, 1, 0, 1, -2])
        self.assertEqual(answers([0, 5, 9, 1, 3, 16, 17, 6, 9, 0, 20, 7, 9, 0, 20]), [1, 0, 1, 0, 1, 0, 1, 0])

    def test_a_things_numbers_are_those_of_the_call(self):
        board = Board()
        self.assertEqual(answer_of(board, 1, [7, 10, 20, 3]), [0])
        thing = board.things[0]
        self.assertEqual((thing.owner, thing.a, thing.b, thing.mask), (7, 10, 20, 3))
        self.assertEqual(answer_of(board, 2, [7, 0, 11, 21, 5]), [0])
        self.assertEqual((thing.owner, thing.a, thing.b, thing.mask), (7, 11, 21, 5))

    def test_for_each_call_how_many_numbers_and_these(self):
        self.assertEqual(answers(ALL_KINDS), ALL_KINDS_TOLD)

    def test_one_call(self):
        self.assertEqual(answers([0]), [1, 0])

    def test_it_is_there_by_its_full_name(self):
        self.assertEqual(maysee.lists.answers(calls=[0]), [1, 0])

    def test_kinds(self):
        told = answers(ALL_KINDS)
        self.assertIs(type(told), list)
        self.assertEqual({type(number) for number in told}, {int})

    def test_what_is_handed_in_is_as_it_was(self):
        calls = list(ALL_KINDS)
        told = answers(calls)
        self.assertEqual(calls, ALL_KINDS)
        self.assertIsNot(told, calls)

    def test_what_is_handed_in_is_not_changed_for_a_while_either(self):
        class Held(list):
            def refuse(self, *given):
                raise AssertionError("changed")

            __setitem__ = __delitem__ = __iadd__ = __imul__ = refuse
            append = clear = extend = insert = pop = remove = reverse = sort = refuse

        self.assertEqual(answers(Held(ALL_KINDS)), ALL_KINDS_TOLD)

    def test_nothing_is_kept(self):
        first = answers(ALL_KINDS)
        self.assertEqual(answers(ALL_KINDS), first)
        answers([0, 1, 1, 1, 1, 1, 1, 1, 1, 1, 1])
        self.assertEqual(answers(ALL_KINDS), first)
        first.clear()
        self.assertEqual(answers(ALL_KINDS), ALL_KINDS_TOLD)

    def test_it_prints_reads_and_imports_nothing(self):
        said = io.StringIO()
        refuse = mock.Mock(side_effect=AssertionError("not asked for"))
        with contextlib.redirect_stdout(said), contextlib.redirect_stderr(said), \
                mock.patch("sys.stdin", None), mock.patch("builtins.open", refuse), \
                mock.patch("builtins.__import__", refuse):
            told = answers(ALL_KINDS)
        self.assertEqual(told, ALL_KINDS_TOLD)
        self.assertEqual(said.getvalue(), "")

    def test_a_number_that_is_no_call(self):
        for number in (10, TOP, -1):
            with self.assertRaises(ValueError):
                answers([0, number])


class Long(unittest.TestCase):
    def test_400_calls(self):
        calls = [begin()] + [add(k % 16, k, k, k) for k in range(64)]
        expected = [0] + list(range(64))
        for k in range(64):
            calls += [add(0), change(k % 16, k, TOP, TOP, 65535), drop(k % 16, k), erase(k % 16, k), erase(k % 16, k)]
            expected += [-28 if k == 0 else 63 + k, 0, 0, 0, -17]
        calls += [drop(0, 0)] * (400 - len(calls))
        expected += [-2] * (400 - len(expected))
        self.assertEqual(len(calls), 400)
        self.assertLessEqual(len(joined(calls)), 3000)
        told = answers(joined(calls))
        self.assertEqual(told[0::2], [1] * 400)
        self.assertEqual(told[1::2], expected)

    def test_400_calls_of_the_longest_kind(self):
        calls = joined([begin(), add(15)] + [change(15, 0, TOP, TOP, 65535)] * 398)
        self.assertEqual(answers(calls), [1, 0] * 400)

    def test_400_calls_with_all_ten_in_it(self):
        calls = [begin()] + [add(k % 16, k % 7, TOP - k % 5, 65535) for k in range(64)]
        calls += [opening(k, k % 2, k % 4, 0, 5) for k in range(8)]
        for k in range(40):
            calls += [onward(k % 8, k % 8, 4), change(k % 16, k, k % 3, k, k), left(k % 8, k % 8), drop(k % 16, k),
                      backward(k % 8, k % 8, 1), erase(k % 16, k), close(k % 8, 8 if k % 9 else k % 8)]
        calls += [begin(), add(0), opening(0)]
        calls += [onward(0, 0, 20)] * (400 - len(calls))
        self.assertEqual(len(calls), 400)
        self.assertEqual({call[0] for call in calls}, set(range(10)))
        self.assertLessEqual(len(joined(calls)), 3000)
        parts = answered(*calls)
        self.assertEqual(parts, all_answers(calls))
        self.assertGreater(len([part for part in parts if len(part) > 1]), 40)

    def test_400_calls_that_tell_the_most(self):
        calls = [begin()] + [add(1, TOP, k) for k in range(20)] + [opening(1, 1, 1)]
        calls += [onward(1), backward(1)] * 189
        parts = answered(*calls)
        self.assertEqual(len(parts), 400)
        self.assertEqual(parts[22:], [[20, *joined([(k, TOP, k) for k in range(20)])]] * 378)

    def test_400_begins(self):
        self.assertEqual(answers([0] * 400), [1, 0] * 400)


if __name__ == "__main__":
    unittest.main()

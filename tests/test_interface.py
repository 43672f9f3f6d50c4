import contextlib
import io
import unittest
from unittest import mock

import maysee.lists
from maysee.lists import Board, answer_of, answers
from tests.calls import TOP, add, begin, change, drop, erase, joined

ALL_KINDS = joined([
    begin(), add(3, 1, 2, 3), add(16), change(3, 0, 4, 5, 6), change(2, 0), drop(3, 0), drop(3, 0),
    erase(3, 0), erase(3, 0), begin(), add(15, TOP, TOP, 65535),
])
ALL_KINDS_TOLD = [1, 0, 1, 0, 1, -22, 1, 0, 1, -1, 1, 0, 1, -2, 1, 0, 1, -17, 1, 0, 1, 0]


class Interface(unittest.TestCase):
    def test_the_numbers_as_the_document_writes_them(self):
        calls = [0, 1, 7, 10, 20, 3, 2, 7, 0, 11, 21, 5, 3, 7, 0, 4, 7, 0]
        self.assertEqual(answers(calls), [1, 0, 1, 0, 1, 0, 1, 0, 1, 0])

    def test_the_order_of_a_calls_numbers(self):
        self.assertEqual(answers([0, 1, 15, 16, 16, 0]), [1, 0, 1, 0])
        self.assertEqual(answers([0, 1, 0, 65536, 65536, 65535]), [1, 0, 1, 0])
        self.assertEqual(answers([0, 1, 9, 0, 0, 0, 2, 9, 0, 65536, 65536, 0]), [1, 0, 1, 0, 1, 0])
        self.assertEqual(answers([0, 1, 9, 0, 0, 0, 3, 0, 9]), [1, 0, 1, 0, 1, -2])
        self.assertEqual(answers([0, 1, 9, 0, 0, 0, 4, 0, 9]), [1, 0, 1, 0, 1, -2])

    def test_a_things_numbers_are_those_of_the_call(self):
        board = Board()
        self.assertEqual(answer_of(board, 1, [7, 10, 20, 3]), [0])
        thing = board.things[0]
        self.assertEqual((thing.owner, thing.a, thing.b, thing.mask), (7, 10, 20, 3))
        self.assertEqual(answer_of(board, 2, [7, 0, 11, 21, 5]), [0])
        self.assertEqual((thing.owner, thing.a, thing.b, thing.mask), (7, 11, 21, 5))

    def test_for_each_call_how_many_numbers_and_these(self):
        self.assertEqual(answers(ALL_KINDS), ALL_KINDS_TOLD)

    def test_one_call(self):
        self.assertEqual(answers([0]), [1, 0])

    def test_it_is_there_by_its_full_name(self):
        self.assertEqual(maysee.lists.answers(calls=[0]), [1, 0])

    def test_kinds(self):
        told = answers(ALL_KINDS)
        self.assertIs(type(told), list)
        self.assertEqual({type(number) for number in told}, {int})

    def test_what_is_handed_in_is_as_it_was(self):
        calls = list(ALL_KINDS)
        told = answers(calls)
        self.assertEqual(calls, ALL_KINDS)
        self.assertIsNot(told, calls)

    def test_what_is_handed_in_is_not_changed_for_a_while_either(self):
        class Held(list):
            def refuse(self, *given):
                raise AssertionError("changed")

            __setitem__ = __delitem__ = __iadd__ = __imul__ = refuse
            append = clear = extend = insert = pop = remove = reverse = sort = refuse

        self.assertEqual(answers(Held(ALL_KINDS)), ALL_KINDS_TOLD)

    def test_nothing_is_kept(self):
        first = answers(ALL_KINDS)
        self.assertEqual(answers(ALL_KINDS), first)
        answers([0, 1, 1, 1, 1, 1, 1, 1, 1, 1, 1])
        self.assertEqual(answers(ALL_KINDS), first)
        first.clear()
        self.assertEqual(answers(ALL_KINDS), ALL_KINDS_TOLD)

    def test_it_prints_reads_and_imports_nothing(self):
        said = io.StringIO()
        refuse = mock.Mock(side_effect=AssertionError("not asked for"))
        with contextlib.redirect_stdout(said), contextlib.redirect_stderr(said), \
                mock.patch("sys.stdin", None), mock.patch("builtins.open", refuse), \
                mock.patch("builtins.__import__", refuse):
            told = answers(ALL_KINDS)
        self.assertEqual(told, ALL_KINDS_TOLD)
        self.assertEqual(said.getvalue(), "")

    def test_a_number_that_is_no_call(self):
        for number in (10, TOP, -1):
            with self.assertRaises(ValueError):
                answers([0, number])


class Long(unittest.TestCase):
    def test_400_calls(self):
        calls = [begin()] + [add(k % 16, k, k, k) for k in range(64)]
        expected = [0] + list(range(64))
        for k in range(64):
            calls += [add(0), change(k % 16, k, TOP, TOP, 65535), drop(k % 16, k), erase(k % 16, k), erase(k % 16, k)]
            expected += [-28 if k == 0 else 63 + k, 0, 0, 0, -17]
        calls += [drop(0, 0)] * (400 - len(calls))
        expected += [-2] * (400 - len(expected))
        self.assertEqual(len(calls), 400)
        self.assertLessEqual(len(joined(calls)), 3000)
        told = answers(joined(calls))
        self.assertEqual(told[0::2], [1] * 400)
        self.assertEqual(told[1::2], expected)

    def test_400_calls_of_the_longest_kind(self):
        calls = joined([begin(), add(15)] + [change(15, 0, TOP, TOP, 65535)] * 398)
        self.assertEqual(answers(calls), [1, 0] * 400)

    def test_400_begins(self):
        self.assertEqual(answers([0] * 400), [1, 0] * 400)


if __name__ == "__main__":
    unittest.main()

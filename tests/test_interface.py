"""The interface: one list of calls, one list of answers."""

import builtins
import contextlib
import io
import unittest
from unittest import mock

from meetclocks.machines import answers
from tests.helper import TIME, least, load, replies, steps, stuck, told, way

LAMP = told("clock x", "machine A", "place p", "place q x<=1", "edge p q when x>=1")


class Lists(unittest.TestCase):
    def test_counts_stand_before_answers(self):
        self.assertEqual(answers(load(LAMP)), [1, 0])
        self.assertEqual(answers(load("?")), [1, 2])
        self.assertEqual(answers(way("")), [1, -2])
        self.assertEqual(answers(load(LAMP) + way("A.q") + least("A.q") + stuck(0) + way("A.p")),
                         [1, 0, 9, 2, -1, -1, -1, -1, 0, 0, -1, -1, 1, 1, 1, -4, 1, 0])

    def test_calls_by_their_numbers(self):
        self.assertEqual(answers([4, 0, 3, 0, 2, 0, 0, 1, 0, 1, 1, 63]), [1, -2, 1, -2, 1, -2, 1, 1, 1, 2])

    def test_any_order(self):
        found = steps(TIME, [0, 0, -1, -1])
        self.assertEqual(
            replies(stuck(), way("A.q"), least(""), load(LAMP), least("A.q"), stuck(), way("A.q"), way(""), stuck(),
                    least("A.q"), load(""), least("A.q"), way("A.q"), load(LAMP), way("A.q")),
            [[-2], [-2], [-2], [0], [1], found, found, [0], found, [1], [1], [-2], [-2], [0], found])

    def test_most_calls(self):
        calls = [load(LAMP)] + [way("A.q"), least("A.q"), stuck()] * 99 + [way("?")] * 2
        found = steps(TIME, [0, 0, -1, -1])
        self.assertEqual(replies(*calls), [[0]] + [found, [1], found] * 99 + [[-5]] * 2)

    def test_long_lists(self):
        text = "\n" * (4096 - len(LAMP)) + LAMP
        calls = [call for number in range(7) for call in (load(text), way("A.q", 2))]
        self.assertEqual(replies(*calls), [[0], steps(TIME, [0, 0, -1, -1])] * 7)

    def test_kinds(self):
        numbers = answers(load(LAMP) + way("A.q") + least("A.q") + stuck())
        self.assertIs(type(numbers), list)
        self.assertEqual({type(number) for number in numbers}, {int})


class NothingKept(unittest.TestCase):
    def test_list_is_not_changed(self):
        calls = load(LAMP) + way("A.q") + least("A.q A.p") + stuck() + load("?") + stuck(-1)
        before = list(calls)
        answers(calls)
        self.assertEqual(calls, before)

    def test_same_list_twice(self):
        calls = load(LAMP) + way("A.q") + least("A.q") + stuck()
        first = answers(calls)
        kept = list(first)
        first.append(5)
        self.assertEqual(answers(calls), kept)

    def test_new_object_each_time(self):
        answers(load(LAMP))
        self.assertEqual(answers(way("A.q") + stuck()), [1, -2, 1, -2])

    def test_prints_reads_and_imports_nothing(self):
        shown = io.StringIO()
        refuse = mock.Mock(side_effect=AssertionError("not allowed"))
        with contextlib.redirect_stdout(shown), contextlib.redirect_stderr(shown):
            with mock.patch.object(builtins, "open", refuse), mock.patch.object(builtins, "__import__", refuse):
                answers(load(LAMP) + way("A.q") + least("A.q") + stuck())
        self.assertEqual(shown.getvalue(), "")
        refuse.assert_not_called()


if __name__ == "__main__":
    unittest.main()

"""answers(calls) as the interface tells it: its form, and what it leaves alone."""

import builtins
import contextlib
import io
import inspect
import sys
import unittest
from unittest import mock

from cuesheets.sheets import answers
from tests.helper import (
    ALONE, BIGGEST, ask_cues, ask_differ, ask_look, ask_moves, ask_track, block, clean, copy, delete, flat, record,
    release, split, unblock,
)

CALLS = flat([
    record(10, 1, 50), record(20, 2, 60), record(10, 1, 70, ALONE), copy(20, 30), block(20),
    record(10, 3, 5), release(10, 1), unblock(30), unblock(20), delete(10, ALONE), delete(10),
    record(0, 0, 0), record(20, 1, 0), ask_cues(), ask_moves(20), ask_look(30), ask_track(1), ask_differ(20, 30),
    record(30, 2, 65), ask_differ(20, 30), ask_look(10), ask_track(65), clean(),
])
ANSWERS = flat([
    [1, 1], [1, 2], [1, 2], [1, 3], [1, 3], [1, 3], [1, 3], [1, -3], [1, 3], [1, 2], [1, -4], [1, -1],
    [1, 2], [5, 2, 20, 0, 30, 0], [7, 3, 1, 0, 2, 60, 3, 0], [65, 0, 0, 60] + [0] * 62, [5, 2, 0, 1, 0, 0], [1, 0],
    [1, 2], [4, 1, 2, 60, 65], [1, -4], [1, -1], [1, 2],
])


def refuse(*given, **named):
    raise RuntimeError("changed, read or imported")


class FixedList(list):
    """A list that takes no change, not even for a while."""

    append = extend = insert = pop = remove = clear = sort = reverse = refuse
    __setitem__ = __delitem__ = __iadd__ = __imul__ = refuse


class InterfaceTest(unittest.TestCase):
    def test_each_answer_with_its_length_before_it(self):
        self.assertEqual(answers(CALLS), ANSWERS)

    def test_one_call(self):
        self.assertEqual(answers([0, 1, 1, 1, 0]), [1, 1])
        self.assertEqual(answers([1, 1, 1, 0]), [1, -4])
        self.assertEqual(answers([2, 1, 0]), [1, -4])
        self.assertEqual(answers([3, 1, 1, 0]), [1, -4])
        self.assertEqual(answers([4, 1]), [1, -4])
        self.assertEqual(answers([5, 1]), [1, -4])
        self.assertEqual(answers([6]), [1, 0])
        self.assertEqual(answers([7]), [1, 0])
        self.assertEqual(answers([8, 1]), [1, -4])
        self.assertEqual(answers([9, 1]), [1, -4])
        self.assertEqual(answers([10, 1]), [1, 0])
        self.assertEqual(answers([11, 1, 1]), [1, -4])

    def test_the_biggest_numbers(self):
        big = BIGGEST
        rows = [
            record(big, big, big, big), release(big, big, big), delete(big, big), copy(big, big, big), block(big),
            unblock(big), ask_moves(big), ask_look(big), ask_track(big), ask_differ(big, big),
        ]
        self.assertEqual(split(answers(flat(rows))), [[-1]] * 4 + [[-4]] * 4 + [[-1], [-4]])

    def test_it_takes_calls_alone(self):
        self.assertEqual(str(inspect.signature(answers)), "(calls)")
        self.assertEqual(answers(calls=[7]), [1, 0])

    def test_a_list_of_whole_numbers(self):
        given = answers(CALLS)
        self.assertIs(type(given), list)
        for number in given:
            self.assertIs(type(number), int)

    def test_400_calls(self):
        rows = [record(1 + turn % 24, 1 + turn % 64, turn % 101, turn % 2) for turn in range(400)]
        expected = flat([1, min(turn + 1, 24)] for turn in range(400))
        self.assertEqual(answers(flat(rows)), expected)

    def test_400_calls_with_long_answers(self):
        rows = [record(1 + turn % 24, 1 + turn, 100 - turn, turn % 2) for turn in range(64)]
        asked = [ask_look(1), ask_moves(24), ask_track(64), ask_differ(1, 24), ask_cues(), clean(), block(24)]
        rows = rows + [asked[turn % 7] for turn in range(336)]
        found = split(answers(flat(rows)))
        self.assertEqual(len(found), 400)
        self.assertEqual([len(answer) for answer in found[-7:]], [65, 129, 49, 1 + 3 * found[-4][0], 49, 1, 1])

    def test_long_input_is_gone_through_by_loops(self):
        rows = [record(1 + turn % 24, 1 + turn % 64, 9, ALONE) for turn in range(393)]
        rows = rows + [clean(), ask_cues(), ask_moves(1), ask_look(24), ask_track(1), ask_differ(1, 2), block(1)]
        calls = flat(rows)
        usual = sys.getrecursionlimit()
        sys.setrecursionlimit(len(inspect.stack()) + 20)
        try:
            found = answers(calls)
        finally:
            sys.setrecursionlimit(usual)
        self.assertEqual(found, answers(calls))

    def test_the_list_handed_in_is_the_same_afterwards(self):
        calls = list(CALLS)
        answers(calls)
        self.assertEqual(calls, CALLS)

    def test_the_list_handed_in_is_not_changed_for_a_while(self):
        self.assertEqual(answers(FixedList(CALLS)), ANSWERS)

    def test_what_is_given_back_is_a_list_of_its_own(self):
        calls = list(CALLS)
        first = answers(calls)
        first.append(9)
        self.assertEqual(calls, CALLS)
        self.assertEqual(answers(calls), ANSWERS)

    def test_nothing_is_kept_from_one_time_to_the_next(self):
        first = answers(CALLS)
        answers(flat([record(5, 5, 5), block(5)]))
        self.assertEqual(answers(CALLS), first)
        self.assertEqual(answers(unblock(5)), [1, -4])
        self.assertEqual(answers(clean() + ask_cues() + ask_look(5)), [1, 0, 1, 0, 1, -4])

    def test_nothing_is_printed(self):
        out, err = io.StringIO(), io.StringIO()
        with contextlib.redirect_stdout(out), contextlib.redirect_stderr(err):
            answers(CALLS)
        self.assertEqual((out.getvalue(), err.getvalue()), ("", ""))

    def test_nothing_is_read_or_imported(self):
        with mock.patch.object(builtins, "open", refuse), \
                mock.patch.object(builtins, "input", refuse), \
                mock.patch.object(builtins, "__import__", refuse):
            given = answers(CALLS)
        self.assertEqual(given, ANSWERS)

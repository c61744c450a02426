"""Each refusal of each call, their order, and that what is refused changes nothing."""

import unittest

from tests.helper import (
    ALONE, BIGGEST, ON, ask_differ, ask_look, ask_moves, ask_track, block, copy, delete, last, looks, record,
    release, state, unblock,
)

NO_NUMBERS = (0, 10000, BIGGEST)
NO_CHANNELS = (0, 65, BIGGEST)
NO_LEVELS = (101, BIGGEST)
NO_HOWS = (2, BIGGEST)

# A full sheet with a blocked cue, a cue without moves, and moves that an edit would change.
FULL = [record(number, 1 + number % 5, number) for number in range(1, 25)]
FULL = FULL + [release(9, 5), block(12)]
SMALL = [record(1, 1, 10), record(2, 2, 20), block(2), record(3, 3, 30)]


class RefusalCase(unittest.TestCase):
    def refused(self, rows, call, number):
        """The call is answered by this number, and leaves the sheet as it was."""
        with self.subTest(call=call):
            self.assertEqual(last(rows + [call]), number)
            self.assertEqual(state(rows + [call]), state(rows))
            self.assertEqual(looks(rows + [call]), looks(rows))


class RecordRefusalTest(RefusalCase):
    def test_numbers_that_there_cannot_be(self):
        for rows in ([], SMALL, FULL):
            for cue in NO_NUMBERS:
                self.refused(rows, record(cue, 1, 1), -1)
            for channel in NO_CHANNELS:
                self.refused(rows, record(1, channel, 1), -1)
            for level in NO_LEVELS:
                self.refused(rows, record(1, 1, level), -1)
            for how in NO_HOWS:
                self.refused(rows, record(1, 1, 1, how), -1)

    def test_the_25th_cue(self):
        for how in (ON, ALONE):
            self.refused(FULL, record(25, 1, 1, how), -5)
            self.refused(FULL, record(9999, 1, 1, how), -5)

    def test_the_25th_cue_between_others(self):
        rows = [record(number * 2, 1, number) for number in range(1, 25)]
        for how in (ON, ALONE):
            self.refused(rows, record(5, 1, 99, how), -5)

    def test_wrong_numbers_stand_before_the_25th_cue(self):
        self.refused(FULL, record(25, 0, 1), -1)
        self.refused(FULL, record(25, 1, 101), -1)
        self.refused(FULL, record(25, 1, 1, 2), -1)
        self.refused(FULL, record(10000, 1, 1), -1)


class ReleaseRefusalTest(RefusalCase):
    def test_numbers_that_there_cannot_be(self):
        for rows in ([], SMALL, FULL):
            for cue in NO_NUMBERS:
                self.refused(rows, release(cue, 2), -1)
            for channel in NO_CHANNELS:
                self.refused(rows, release(1, channel), -1)
            for how in NO_HOWS:
                self.refused(rows, release(1, 2, how), -1)

    def test_no_such_cue(self):
        for how in (ON, ALONE):
            self.refused([], release(1, 1, how), -4)
            self.refused(SMALL, release(4, 1, how), -4)
            self.refused(SMALL, release(9999, 64, how), -4)

    def test_no_move_of_that_channel(self):
        for how in (ON, ALONE):
            self.refused(SMALL, release(1, 2, how), -3)
            self.refused(SMALL, release(3, 1, how), -3)
            self.refused(SMALL + [release(1, 1)], release(1, 1, how), -3)

    def test_order(self):
        self.refused(SMALL, release(4, 65), -1)
        self.refused(SMALL, release(4, 1, 2), -1)
        self.refused(SMALL, release(1, 2, 2), -1)
        self.refused(SMALL, release(4, 1), -4)


class DeleteRefusalTest(RefusalCase):
    def test_numbers_that_there_cannot_be(self):
        for rows in ([], SMALL, FULL):
            for cue in NO_NUMBERS:
                self.refused(rows, delete(cue), -1)
            for how in NO_HOWS:
                self.refused(rows, delete(1, how), -1)

    def test_no_such_cue(self):
        for how in (ON, ALONE):
            self.refused([], delete(1, how), -4)
            self.refused(SMALL, delete(9999, how), -4)
            self.refused(SMALL + [delete(3)], delete(3, how), -4)

    def test_order(self):
        self.refused(SMALL, delete(4, 2), -1)


class CopyRefusalTest(RefusalCase):
    def test_numbers_that_there_cannot_be(self):
        for rows in ([], SMALL, FULL):
            for cue in NO_NUMBERS:
                self.refused(rows, copy(1, cue), -1)
            for how in NO_HOWS:
                self.refused(rows, copy(1, 3, how), -1)

    def test_no_such_first_cue(self):
        for how in (ON, ALONE):
            self.refused([], copy(1, 2, how), -4)
            self.refused([], copy(1, 1, how), -4)
            self.refused(SMALL, copy(4, 1, how), -4)
            self.refused(SMALL, copy(4, 4, how), -4)

    def test_a_first_that_there_cannot_be_is_no_such_cue(self):
        for cue in NO_NUMBERS:
            self.refused(SMALL, copy(cue, 1), -4)

    def test_the_25th_cue(self):
        for how in (ON, ALONE):
            self.refused(FULL, copy(1, 25, how), -5)
            self.refused(FULL, copy(24, 9999, how), -5)

    def test_order(self):
        self.refused(SMALL, copy(4, 0), -1)
        self.refused(SMALL, copy(4, 1, 2), -1)
        self.refused(SMALL, copy(0, 0), -1)
        self.refused(FULL, copy(25, 26), -4)
        self.refused(FULL, copy(0, 25), -4)
        self.refused(FULL, copy(1, 25, 2), -1)
        self.refused(FULL, copy(25, 10000), -1)


class BlockRefusalTest(RefusalCase):
    def test_no_such_cue(self):
        for rows in ([], SMALL, FULL):
            for cue in NO_NUMBERS + (25, 9999):
                self.refused(rows, block(cue), -4)


class UnblockRefusalTest(RefusalCase):
    def test_no_such_cue(self):
        for rows in ([], SMALL, FULL):
            for cue in NO_NUMBERS + (25, 9999):
                self.refused(rows, unblock(cue), -4)

    def test_not_blocked(self):
        self.refused(SMALL, unblock(1), -3)
        self.refused(SMALL + [unblock(2)], unblock(2), -3)
        self.refused([record(1, 1, 0)], unblock(1), -3)


class MovesRefusalTest(RefusalCase):
    def test_no_such_cue(self):
        for rows in ([], SMALL, FULL):
            for cue in NO_NUMBERS + (25, 9999):
                self.refused(rows, ask_moves(cue), -4)
        self.refused(SMALL + [delete(3)], ask_moves(3), -4)


class LookRefusalTest(RefusalCase):
    def test_no_such_cue(self):
        for rows in ([], SMALL, FULL):
            for cue in NO_NUMBERS + (25, 9999):
                self.refused(rows, ask_look(cue), -4)
        self.refused(SMALL + [delete(3)], ask_look(3), -4)

    def test_a_number_between_cues(self):
        self.refused([record(1, 1, 1), record(3, 1, 1)], ask_look(2), -4)


class TrackRefusalTest(RefusalCase):
    def test_no_such_channel(self):
        for rows in ([], SMALL, FULL):
            for channel in NO_CHANNELS:
                self.refused(rows, ask_track(channel), -1)


class DifferRefusalTest(RefusalCase):
    def test_the_first_is_not_there(self):
        for rows in (SMALL, FULL):
            for cue in NO_NUMBERS + (25, 9999):
                self.refused(rows, ask_differ(cue, 2), -4)

    def test_the_second_is_not_there(self):
        for rows in (SMALL, FULL):
            for cue in NO_NUMBERS + (25, 9999):
                self.refused(rows, ask_differ(2, cue), -4)

    def test_neither_is_there(self):
        for rows in ([], SMALL, FULL):
            for cue in NO_NUMBERS + (25, 9999):
                self.refused(rows, ask_differ(cue, cue), -4)
                self.refused(rows, ask_differ(cue, 26), -4)

"""clean, cues, moves, look, track and differ, at ordinary inputs and at the edges that the document names."""

import unittest

from tests.helper import (
    ALONE, CHANNELS, ask_cues, ask_differ, ask_look, ask_moves, ask_track, block, clean, copy, cues, delete, last,
    looks, moves, record, release, state, told, told_all, unblock,
)

# Recorded in another order than that of the numbers, so that no order comes by itself.
PLAIN = [
    record(40, 1, 40), record(10, 64, 100), record(30, 3, 30), record(10, 1, 50), record(20, 2, 20),
]
BLOCKED = PLAIN + [block(30)]
EMPTIED = [record(7, 1, 10), release(7, 1)]
FULL = [record(number, 1, number) for number in range(24, 0, -1)]
QUESTIONS = [ask_cues(), ask_moves(10), ask_look(10), ask_track(1), ask_differ(10, 40)]
ALL_CHANNELS = [record(5, channel, channel) for channel in CHANNELS]


def levels(told_levels):
    """The sixty-four levels of a look that has these and else 0."""
    return [told_levels.get(channel, 0) for channel in CHANNELS]


class CleanTest(unittest.TestCase):
    def test_a_sheet_without_cues(self):
        self.assertEqual(told([clean()]), [0])
        self.assertEqual(told([record(1, 1, 1), delete(1), clean()]), [0])

    def test_a_sheet_without_moves(self):
        self.assertEqual(told(EMPTIED + [clean()]), [0])
        self.assertEqual(state(EMPTIED + [clean()]), {7: ({}, False)})

    def test_nothing_needless_stays_as_it_is(self):
        self.assertEqual(told(PLAIN + [clean()]), [5])
        self.assertEqual(state(PLAIN + [clean()]), state(PLAIN))

    def test_needless_moves_are_gone(self):
        rows = PLAIN + [record(20, 1, 50), record(30, 1, 50), record(30, 2, 20), record(40, 64, 100), clean()]
        self.assertEqual(told(rows), [5])
        self.assertEqual(state(rows), state(PLAIN))

    def test_a_first_move_to_0_is_needless(self):
        rows = [record(1, 1, 0), record(1, 2, 5), record(2, 64, 0), clean()]
        self.assertEqual(told(rows), [1])
        self.assertEqual(moves(rows), {1: {2: 5}, 2: {}})

    def test_a_move_back_to_0_is_not_needless(self):
        rows = [record(1, 1, 100), record(2, 1, 0), record(3, 1, 0), record(4, 1, 100), clean()]
        self.assertEqual(told(rows), [3])
        self.assertEqual(moves(rows), {1: {1: 100}, 2: {1: 0}, 3: {}, 4: {1: 100}})

    def test_the_first_of_moves_to_one_level_stays(self):
        rows = [record(number, 1, 70) for number in (1, 2, 9999)] + [clean()]
        self.assertEqual(told(rows), [1])
        self.assertEqual(moves(rows), {1: {1: 70}, 2: {}, 9999: {}})

    def test_cues_without_moves_stay(self):
        rows = [record(1, 1, 0), clean()]
        self.assertEqual(cues(rows), [(1, 0)])

    def test_blocked_cues_keep_their_needless_moves(self):
        rows = BLOCKED + [record(40, 2, 20), clean()]
        self.assertEqual(told(rows), [8])
        self.assertEqual(state(rows), state(BLOCKED))

    def test_moves_of_a_blocked_cue_make_those_behind_needless(self):
        rows = [record(1, 1, 10), record(2, 1, 20), record(3, 1, 20), block(2), clean()]
        self.assertEqual(told(rows), [2])
        self.assertEqual(state(rows), {1: ({1: 10}, False), 2: ({1: 20}, True), 3: ({}, False)})

    def test_a_sheet_of_blocked_cues_alone(self):
        rows = PLAIN + [block(number) for number in (10, 20, 30, 40)]
        self.assertEqual(told(rows + [clean()]), [16])
        self.assertEqual(state(rows + [clean()]), state(rows))

    def test_a_cue_that_is_blocked_no_more(self):
        rows = PLAIN + [block(20), block(30), unblock(20), clean()]
        self.assertEqual(told(rows), [8])
        rows = PLAIN + [block(20), block(30), unblock(20), unblock(30), clean()]
        self.assertEqual(told(rows), [5])

    def test_a_second_time_changes_nothing(self):
        rows = BLOCKED + [record(20, 1, 50), clean()]
        self.assertEqual(told(rows + [clean()]), told(rows))
        self.assertEqual(state(rows + [clean()]), state(rows))

    def test_the_looks_stay(self):
        rows = BLOCKED + [record(20, 1, 50), record(40, 5, 0), release(30, 2), record(30, 3, 0)]
        self.assertEqual(looks(rows + [clean()]), looks(rows))

    def test_a_move_that_held_a_cue_goes_once_it_is_needless(self):
        rows = PLAIN + [record(20, 1, 70, ALONE), record(20, 1, 50)]
        self.assertEqual(moves(rows)[30], {1: 50, 3: 30})
        self.assertEqual(told(rows + [clean()]), [5])
        self.assertEqual(state(rows + [clean()]), state(PLAIN))

    def test_24_cues_of_64_moves(self):
        made = ALL_CHANNELS + [copy(5, 100 + number) for number in range(23)]
        blocked = made + [block(number) for number, flag in cues(made)]
        self.assertEqual(told(made + [clean()]), [64])
        self.assertEqual(told(blocked + [clean()]), [1536])
        self.assertEqual(told(blocked + [unblock(5), clean()]), [1536])
        self.assertEqual(told(blocked + [unblock(122), clean()]), [1472])


class CuesTest(unittest.TestCase):
    def test_a_sheet_without_cues(self):
        self.assertEqual(told([ask_cues()]), [0])
        self.assertEqual(told([record(1, 1, 1), delete(1), ask_cues()]), [0])

    def test_by_their_numbers_with_their_blocks(self):
        self.assertEqual(told(PLAIN + [ask_cues()]), [4, 10, 0, 20, 0, 30, 0, 40, 0])
        self.assertEqual(told(BLOCKED + [ask_cues()]), [4, 10, 0, 20, 0, 30, 1, 40, 0])
        self.assertEqual(told(BLOCKED + [unblock(30), ask_cues()]), [4, 10, 0, 20, 0, 30, 0, 40, 0])

    def test_a_cue_without_moves(self):
        self.assertEqual(told(EMPTIED + [ask_cues()]), [1, 7, 0])

    def test_24_cues(self):
        expected = [24] + [number for cue in range(1, 25) for number in (cue, 0)]
        self.assertEqual(told(FULL + [ask_cues()]), expected)
        expected = [24] + [number for cue in range(1, 25) for number in (cue, 1)]
        self.assertEqual(told(FULL + [block(cue) for cue in range(1, 25)] + [ask_cues()]), expected)

    def test_the_first_and_the_last_number(self):
        self.assertEqual(told([record(9999, 1, 1), record(1, 1, 1), ask_cues()]), [2, 1, 0, 9999, 0])


class MovesTest(unittest.TestCase):
    def test_by_channels(self):
        self.assertEqual(told(PLAIN + [ask_moves(10)]), [2, 1, 50, 64, 100])
        self.assertEqual(told(PLAIN + [ask_moves(40)]), [1, 1, 40])

    def test_of_this_cue_alone(self):
        self.assertEqual(told(PLAIN + [ask_moves(20)]), [1, 2, 20])

    def test_of_a_cue_without_moves(self):
        self.assertEqual(told(EMPTIED + [ask_moves(7)]), [0])

    def test_of_a_blocked_cue(self):
        self.assertEqual(told(BLOCKED + [ask_moves(30)]), [4, 1, 50, 2, 20, 3, 30, 64, 100])

    def test_needless_ones_and_those_to_0_are_told(self):
        rows = [record(1, 64, 0), record(1, 1, 100), record(2, 1, 100)]
        self.assertEqual(told(rows + [ask_moves(1)]), [2, 1, 100, 64, 0])
        self.assertEqual(told(rows + [ask_moves(2)]), [1, 1, 100])

    def test_64_moves(self):
        expected = [64] + [number for channel in CHANNELS for number in (channel, channel)]
        self.assertEqual(told(ALL_CHANNELS[::-1] + [ask_moves(5)]), expected)

    def test_the_first_and_the_last_number(self):
        for cue in (1, 9999):
            self.assertEqual(told([record(cue, 1, 1), ask_moves(cue)]), [1, 1, 1])


class LookTest(unittest.TestCase):
    def test_levels_track_on(self):
        found = looks(PLAIN)
        self.assertEqual(found[10], levels({1: 50, 64: 100}))
        self.assertEqual(found[20], levels({1: 50, 2: 20, 64: 100}))
        self.assertEqual(found[30], levels({1: 50, 2: 20, 3: 30, 64: 100}))
        self.assertEqual(found[40], levels({1: 40, 2: 20, 3: 30, 64: 100}))

    def test_0_and_sixty_four_levels(self):
        self.assertEqual(told(PLAIN + [ask_look(10)]), [0] + levels({1: 50, 64: 100}))

    def test_of_a_cue_without_moves(self):
        self.assertEqual(told(EMPTIED + [ask_look(7)]), [0] * 65)
        rows = EMPTIED + [record(6, 5, 60), record(8, 6, 70)]
        self.assertEqual(told(rows + [ask_look(7)]), [0] + levels({5: 60}))

    def test_of_a_blocked_cue(self):
        self.assertEqual(looks(BLOCKED), looks(PLAIN))

    def test_a_move_to_0_is_a_level_like_others(self):
        rows = [record(1, 1, 100), record(2, 1, 0), record(3, 2, 1)]
        self.assertEqual([look[0] for look in looks(rows).values()], [100, 0, 0])

    def test_all_channels(self):
        self.assertEqual(told(ALL_CHANNELS + [ask_look(5)]), [0] + list(CHANNELS))

    def test_the_first_and_the_last_number(self):
        rows = [record(9999, 64, 1), record(1, 1, 100)]
        self.assertEqual(told(rows + [ask_look(1)]), [0] + levels({1: 100}))
        self.assertEqual(told(rows + [ask_look(9999)]), [0] + levels({1: 100, 64: 1}))

    def test_the_last_of_24_cues(self):
        rows = FULL + [record(number, 1 + number, 100) for number in range(1, 25)]
        expected = {1 + number: 100 for number in range(1, 25)}
        expected[1] = 24
        self.assertEqual(told(rows + [ask_look(24)]), [0] + levels(expected))


class TrackTest(unittest.TestCase):
    def test_a_sheet_without_cues(self):
        for channel in (1, 64):
            self.assertEqual(told([ask_track(channel)]), [0])

    def test_levels_and_whether_they_are_moves(self):
        self.assertEqual(told(PLAIN + [ask_track(1)]), [4, 50, 1, 50, 0, 50, 0, 40, 1])
        self.assertEqual(told(PLAIN + [ask_track(2)]), [4, 0, 0, 20, 1, 20, 0, 20, 0])
        self.assertEqual(told(PLAIN + [ask_track(64)]), [4, 100, 1, 100, 0, 100, 0, 100, 0])

    def test_a_channel_without_moves(self):
        self.assertEqual(told(PLAIN + [ask_track(4)]), [4, 0, 0, 0, 0, 0, 0, 0, 0])

    def test_blocked_cues(self):
        self.assertEqual(told(BLOCKED + [ask_track(1)]), [4, 50, 1, 50, 0, 50, 1, 40, 1])
        self.assertEqual(told(BLOCKED + [ask_track(4)]), [4, 0, 0, 0, 0, 0, 0, 0, 0])

    def test_moves_to_0_and_needless_ones_are_moves(self):
        rows = [record(1, 1, 0), record(2, 1, 100), record(3, 1, 100), record(4, 1, 0)]
        self.assertEqual(told(rows + [ask_track(1)]), [4, 0, 1, 100, 1, 100, 1, 0, 1])

    def test_24_cues(self):
        expected = [24] + [number for cue in range(1, 25) for number in (cue, 1)]
        self.assertEqual(told(FULL + [ask_track(1)]), expected)
        self.assertEqual(told(FULL + [ask_track(64)]), [24] + [0] * 48)


class DifferTest(unittest.TestCase):
    def test_channels_with_the_levels_of_the_first_and_the_second(self):
        self.assertEqual(told(PLAIN + [ask_differ(10, 40)]), [3, 1, 50, 40, 2, 0, 20, 3, 0, 30])
        self.assertEqual(told(PLAIN + [ask_differ(40, 10)]), [3, 1, 40, 50, 2, 20, 0, 3, 30, 0])

    def test_a_cue_and_itself(self):
        for number in (10, 30):
            self.assertEqual(told(BLOCKED + [ask_differ(number, number)]), [0])

    def test_cues_that_look_the_same_with_other_moves(self):
        rows = [record(1, 1, 10), record(2, 1, 10), record(3, 2, 0)]
        for m, n in ((1, 2), (2, 1), (1, 3), (3, 2)):
            self.assertEqual(told(rows + [ask_differ(m, n)]), [0])

    def test_moves_between_that_are_taken_back(self):
        rows = [record(1, 1, 10), record(2, 1, 20), record(3, 1, 10)]
        self.assertEqual(told(rows + [ask_differ(1, 3)]), [0])
        self.assertEqual(told(rows + [ask_differ(1, 2)]), [1, 1, 10, 20])

    def test_blocked_cues(self):
        self.assertEqual(told(BLOCKED + [ask_differ(20, 30)]), [1, 3, 0, 30])
        self.assertEqual(told(BLOCKED + [ask_differ(30, 20)]), [1, 3, 30, 0])

    def test_all_channels(self):
        rows = ALL_CHANNELS + [record(1, 1, 0), record(9999, 64, 100)]
        expected = [64] + [number for channel in CHANNELS for number in (channel, 0, channel)]
        self.assertEqual(told(rows + [ask_differ(1, 5)]), expected)
        self.assertEqual(told(rows + [ask_differ(9999, 5)]), [1, 64, 100, 64])


class ChangesNothingTest(unittest.TestCase):
    def test_questions_change_nothing(self):
        for rows in (PLAIN, BLOCKED, FULL + [record(10, 2, 2), record(40, 1, 1)], EMPTIED):
            for question in QUESTIONS:
                self.assertEqual(state(rows + [question]), state(rows))
                self.assertEqual(looks(rows + [question]), looks(rows))

    def test_questions_on_a_sheet_without_cues_make_none(self):
        self.assertEqual(told_all(QUESTIONS), [[0], [-4], [-4], [0], [-4]])
        self.assertEqual(state(QUESTIONS), {})

    def test_a_question_asked_again_is_answered_the_same(self):
        for question in QUESTIONS:
            answer = told_all(BLOCKED + [question, question])
            self.assertEqual(answer[-1], answer[-2])

    def test_edits_go_on_behind_questions_as_without_them(self):
        asked = [row for call in BLOCKED for row in [call] + QUESTIONS]
        self.assertEqual(state(asked), state(BLOCKED))
        self.assertEqual(last(asked + [delete(30, ALONE)]), 3)

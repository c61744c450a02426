"""Each call that edits, blocks or unblocks, at ordinary inputs and at the edges that the document names."""

import unittest

from tests.helper import (
    ALONE, ON, block, copy, delete, last, level, moves, record, release, state, unblock,
)

# Channel 1 moves in cues 10 and 40; cue 30 is the one that tests block.
PLAIN = [
    record(10, 1, 50), record(20, 2, 20), record(30, 3, 30), record(40, 1, 40), record(50, 5, 50),
]
BLOCKED = PLAIN + [block(30)]
FULL = [record(number, 1, 10) for number in range(1, 25)]


class RecordTest(unittest.TestCase):
    def test_makes_a_cue_with_that_move_alone_not_blocked(self):
        self.assertEqual(last([record(5, 7, 30)]), 1)
        self.assertEqual(state([record(5, 7, 30)]), {5: ({7: 30}, False)})

    def test_a_made_cue_between_others_has_no_other_moves(self):
        rows = PLAIN + [record(15, 9, 90)]
        self.assertEqual(last(rows), 6)
        self.assertEqual(state(rows)[15], ({9: 90}, False))

    def test_takes_the_place_of_the_move_of_that_channel(self):
        rows = [record(5, 7, 30), record(5, 8, 40), record(5, 7, 60)]
        self.assertEqual(last(rows), 1)
        self.assertEqual(state(rows), {5: ({7: 60, 8: 40}, False)})

    def test_keeps_a_block_of_the_cue(self):
        self.assertTrue(state(BLOCKED + [record(30, 1, 5)])[30][1])

    def test_keeps_a_needless_move(self):
        self.assertEqual(moves([record(1, 1, 0), record(2, 1, 0)]), {1: {1: 0}, 2: {1: 0}})

    def test_on_leaves_cues_that_are_not_blocked_their_moves(self):
        rows = PLAIN + [record(20, 1, 70)]
        expected = moves(PLAIN)
        expected[20] = {1: 70, 2: 20}
        self.assertEqual(moves(rows), expected)
        self.assertEqual(level(rows, 30, 1), 70)
        self.assertEqual(level(rows, 40, 1), 40)

    def test_alone_holds_the_next_cue_only(self):
        rows = PLAIN + [record(20, 1, 70, ALONE)]
        expected = moves(PLAIN)
        expected[20] = {1: 70, 2: 20}
        expected[30] = {1: 50, 3: 30}
        self.assertEqual(moves(rows), expected)

    def test_alone_gives_nothing_to_a_next_cue_that_moves_the_channel(self):
        rows = PLAIN + [record(30, 1, 70, ALONE)]
        expected = moves(PLAIN)
        expected[30] = {1: 70, 3: 30}
        self.assertEqual(moves(rows), expected)

    def test_alone_gives_nothing_where_the_level_was_the_same(self):
        rows = PLAIN + [record(20, 1, 50, ALONE)]
        expected = moves(PLAIN)
        expected[20] = {1: 50, 2: 20}
        self.assertEqual(moves(rows), expected)

    def test_alone_holds_at_level_0_a_channel_without_a_move_before(self):
        rows = PLAIN + [record(20, 64, 70, ALONE)]
        self.assertEqual(moves(rows)[30], {3: 30, 64: 0})

    def test_alone_holds_the_next_cue_not_the_next_blocked_one(self):
        rows = PLAIN + [block(40), record(20, 64, 70, ALONE)]
        self.assertEqual(moves(rows)[30], {3: 30, 64: 0})
        self.assertNotIn(64, moves(rows)[40])

    def test_on_holds_the_next_blocked_cue_only(self):
        rows = PLAIN + [block(30), block(50), record(10, 9, 70)]
        self.assertEqual(moves(rows)[20], {2: 20})
        self.assertEqual(moves(rows)[30], {1: 50, 2: 20, 3: 30, 5: 0, 9: 0})
        self.assertNotIn(9, moves(rows)[50])

    def test_on_gives_nothing_to_a_blocked_cue_behind_the_next_move(self):
        rows = PLAIN + [block(50), record(30, 1, 70)]
        self.assertEqual(moves(rows)[50], moves(PLAIN + [block(50)])[50])

    def test_on_does_not_hold_a_blocked_cue_before(self):
        rows = BLOCKED + [record(40, 9, 70)]
        self.assertEqual(moves(rows)[30], moves(BLOCKED)[30])

    def test_without_a_cue_behind(self):
        for how in (ON, ALONE):
            rows = PLAIN + [record(50, 1, 70, how)]
            expected = moves(PLAIN)
            expected[50] = {1: 70, 5: 50}
            self.assertEqual(moves(rows), expected)

    def test_of_a_blocked_cue_itself_changes_it(self):
        for how in (ON, ALONE):
            self.assertEqual(level(BLOCKED + [record(30, 1, 70, how)], 30, 1), 70)

    def test_a_made_cue_alone_holds_the_next(self):
        rows = PLAIN + [record(15, 1, 70, ALONE)]
        self.assertEqual(moves(rows)[15], {1: 70})
        self.assertEqual(moves(rows)[20], {1: 50, 2: 20})

    def test_made_cue_before_all_others(self):
        rows = PLAIN + [record(1, 2, 70, ALONE)]
        self.assertEqual(moves(rows)[10], {1: 50, 2: 0})

    def test_the_24th_cue_is_made(self):
        self.assertEqual(last(FULL), 24)

    def test_a_cue_that_is_there_is_recorded_when_there_are_24(self):
        rows = FULL + [record(24, 2, 20)]
        self.assertEqual(last(rows), 24)
        self.assertEqual(moves(rows)[24], {1: 10, 2: 20})

    def test_edges_that_there_can_be(self):
        for cue in (1, 9999):
            for channel in (1, 64):
                for level in (0, 100):
                    for how in (ON, ALONE):
                        rows = [record(cue, channel, level, how)]
                        self.assertEqual(last(rows), 1)
                        self.assertEqual(moves(rows), {cue: {channel: level}})


class ReleaseTest(unittest.TestCase):
    def test_the_move_is_gone_and_the_others_stay(self):
        rows = [record(5, 7, 30), record(5, 8, 40), release(5, 7)]
        self.assertEqual(last(rows), 1)
        self.assertEqual(moves(rows), {5: {8: 40}})

    def test_a_cue_without_moves_stays(self):
        rows = [record(5, 7, 30), release(5, 7)]
        self.assertEqual(last(rows), 1)
        self.assertEqual(state(rows), {5: ({}, False)})

    def test_a_move_to_level_0_is_released(self):
        rows = [record(5, 7, 0), release(5, 7)]
        self.assertEqual(last(rows), 1)
        self.assertEqual(moves(rows), {5: {}})

    def test_on_tracks_through_to_the_next_move(self):
        rows = PLAIN + [release(10, 1)]
        expected = moves(PLAIN)
        expected[10] = {}
        self.assertEqual(moves(rows), expected)

    def test_alone_holds_the_next_cue(self):
        rows = PLAIN + [release(10, 1, ALONE)]
        expected = moves(PLAIN)
        expected[10] = {}
        expected[20] = {1: 50, 2: 20}
        self.assertEqual(moves(rows), expected)

    def test_on_holds_the_next_blocked_cue(self):
        before = PLAIN + [block(30), release(30, 1)]
        rows = before + [release(20, 2)]
        self.assertEqual(moves(rows)[30], moves(before)[30])
        rows = PLAIN + [block(30), release(30, 2), release(20, 2)]
        self.assertEqual(moves(rows)[30], {1: 50, 2: 20, 3: 30, 5: 0})

    def test_without_a_cue_behind(self):
        for how in (ON, ALONE):
            rows = PLAIN + [release(50, 5, how)]
            expected = moves(PLAIN)
            expected[50] = {}
            self.assertEqual(moves(rows), expected)

    def test_edges_that_there_can_be(self):
        for cue in (1, 9999):
            for channel in (1, 64):
                for how in (ON, ALONE):
                    rows = [record(cue, channel, 10), release(cue, channel, how)]
                    self.assertEqual(last(rows), 1)
                    self.assertEqual(moves(rows), {cue: {}})


class DeleteTest(unittest.TestCase):
    def test_the_cue_is_gone(self):
        self.assertEqual(last(PLAIN + [delete(20)]), 4)
        self.assertEqual(list(moves(PLAIN + [delete(20)])), [10, 30, 40, 50])

    def test_the_last_cue_of_a_sheet(self):
        for how in (ON, ALONE):
            self.assertEqual(last([record(1, 1, 1), delete(1, how)]), 0)
            self.assertEqual(state([record(1, 1, 1), delete(1, how)]), {})

    def test_on_leaves_all_others_their_moves(self):
        expected = moves(PLAIN)
        expected.pop(10)
        self.assertEqual(moves(PLAIN + [delete(10)]), expected)

    def test_alone_holds_the_next_cue(self):
        expected = moves(PLAIN)
        expected.pop(10)
        expected[20] = {1: 50, 2: 20}
        self.assertEqual(moves(PLAIN + [delete(10, ALONE)]), expected)

    def test_alone_holds_each_channel_that_would_change(self):
        rows = PLAIN + [record(20, 9, 90), record(20, 1, 15), delete(20, ALONE)]
        self.assertEqual(moves(rows)[30], {1: 15, 2: 20, 3: 30, 9: 90})

    def test_on_holds_the_next_blocked_cue(self):
        rows = PLAIN + [block(40), release(40, 3), release(40, 2), delete(30), delete(20)]
        self.assertEqual(moves(rows)[40], {1: 40, 2: 20, 3: 30, 5: 0})

    def test_of_a_blocked_cue(self):
        self.assertEqual(last(BLOCKED + [delete(30)]), 4)
        self.assertEqual(moves(BLOCKED + [delete(30)])[40], {1: 40})

    def test_a_cue_made_again_is_neither_blocked_nor_has_its_old_moves(self):
        self.assertEqual(state(BLOCKED + [delete(30), record(30, 9, 9)])[30], ({9: 9}, False))

    def test_makes_room_for_another(self):
        self.assertEqual(last(FULL + [delete(24), record(25, 1, 1)]), 24)

    def test_edges_that_there_can_be(self):
        for cue in (1, 9999):
            self.assertEqual(last([record(cue, 1, 1), delete(cue)]), 0)


class CopyTest(unittest.TestCase):
    def test_onto_a_cue_behind_that_is_not_there(self):
        rows = PLAIN + [copy(20, 45)]
        self.assertEqual(last(rows), 6)
        self.assertEqual(state(rows)[45], ({1: 50, 3: 0}, False))

    def test_onto_a_cue_before_all_others(self):
        rows = PLAIN + [copy(30, 5)]
        self.assertEqual(last(rows), 6)
        self.assertEqual(moves(rows)[5], {1: 50, 2: 20, 3: 30})

    def test_onto_a_cue_that_is_there_keeps_its_moves_of_other_channels(self):
        rows = PLAIN + [record(40, 2, 20), copy(30, 40)]
        self.assertEqual(last(rows), 5)
        self.assertEqual(moves(rows)[40], {1: 50, 2: 20})

    def test_onto_a_cue_that_looks_the_same_gives_it_nothing(self):
        rows = [record(1, 1, 10), record(2, 1, 10), copy(1, 2), copy(1, 3)]
        self.assertEqual(moves(rows), {1: {1: 10}, 2: {1: 10}, 3: {}})

    def test_onto_itself_changes_nothing(self):
        for how in (ON, ALONE):
            self.assertEqual(last(BLOCKED + [copy(30, 30, how)]), 5)
            self.assertEqual(state(BLOCKED + [copy(30, 30, how)]), state(BLOCKED))
            self.assertEqual(last(FULL + [copy(24, 24, how)]), 24)

    def test_a_copy_of_a_blocked_cue_is_not_blocked(self):
        self.assertFalse(state(BLOCKED + [copy(30, 60)])[60][1])

    def test_onto_a_blocked_cue_that_stays_blocked(self):
        rows = BLOCKED + [copy(50, 30)]
        self.assertEqual(state(rows)[30], ({1: 40, 2: 20, 3: 30, 5: 50}, True))

    def test_on_tracks_through(self):
        rows = PLAIN + [copy(50, 20)]
        expected = moves(PLAIN)
        expected[20] = {1: 40, 2: 20, 3: 30, 5: 50}
        self.assertEqual(moves(rows), expected)

    def test_alone_holds_the_next_cue(self):
        rows = PLAIN + [copy(50, 20, ALONE)]
        expected = moves(PLAIN)
        expected[20] = {1: 40, 2: 20, 3: 30, 5: 50}
        expected[30] = {1: 50, 3: 30, 5: 0}
        self.assertEqual(moves(rows), expected)

    def test_on_holds_the_next_blocked_cue(self):
        rows = PLAIN + [block(40), release(40, 5), copy(50, 20)]
        self.assertEqual(moves(rows)[30], {3: 30})
        self.assertEqual(moves(rows)[40], {1: 40, 2: 20, 3: 30, 5: 0})

    def test_the_first_is_taken_as_it_was_before(self):
        # Made on, the copy changes the look of its own source, which stands behind it.
        rows = [record(10, 1, 10), record(20, 2, 20), record(30, 1, 30), copy(30, 10)]
        self.assertEqual(moves(rows)[10], {1: 30, 2: 20})
        rows = [record(10, 1, 10), record(20, 1, 0), copy(10, 20), copy(20, 30)]
        self.assertEqual(moves(rows), {10: {1: 10}, 20: {1: 10}, 30: {}})

    def test_the_next_is_held_when_it_is_the_source(self):
        rows = [record(10, 1, 10), record(30, 2, 30), copy(30, 20, ALONE)]
        self.assertEqual(moves(rows), {10: {1: 10}, 20: {2: 30}, 30: {2: 30}})

    def test_without_a_cue_behind(self):
        for how in (ON, ALONE):
            self.assertEqual(moves(PLAIN + [copy(10, 50, how)])[50], {1: 50, 2: 0, 3: 0, 5: 0})

    def test_the_24th_cue_is_made(self):
        rows = FULL[:23] + [copy(1, 9999)]
        self.assertEqual(last(rows), 24)

    def test_onto_a_cue_that_is_there_when_there_are_24(self):
        self.assertEqual(last(FULL + [copy(1, 24)]), 24)

    def test_edges_that_there_can_be(self):
        rows = [record(2, 64, 100), copy(2, 1), copy(2, 9999)]
        self.assertEqual(last(rows), 3)
        self.assertEqual(moves(rows), {1: {64: 100}, 2: {64: 100}, 9999: {}})


class BlockTest(unittest.TestCase):
    def test_gives_moves_of_all_channels_that_any_cue_moves(self):
        self.assertEqual(last(BLOCKED), 5)
        self.assertEqual(state(BLOCKED)[30], ({1: 50, 2: 20, 3: 30, 5: 0}, True))

    def test_leaves_all_other_cues_as_they_are(self):
        others = [number for number in state(PLAIN) if number != 30]
        self.assertEqual([state(BLOCKED)[n] for n in others], [state(PLAIN)[n] for n in others])

    def test_of_the_first_and_of_the_last_cue(self):
        self.assertEqual(moves(PLAIN + [block(10)])[10], {1: 50, 2: 0, 3: 0, 5: 0})
        self.assertEqual(moves(PLAIN + [block(50)])[50], {1: 40, 2: 20, 3: 30, 5: 50})

    def test_of_a_blocked_cue_gives_the_moves_that_it_lacks(self):
        rows = BLOCKED + [record(50, 64, 60), release(30, 2), block(30)]
        self.assertEqual(last(rows), 5)
        self.assertEqual(state(rows)[30], ({1: 50, 2: 20, 3: 30, 5: 0, 64: 0}, True))

    def test_of_a_blocked_cue_that_lacks_none_changes_nothing(self):
        self.assertEqual(last(BLOCKED + [block(30)]), 5)
        self.assertEqual(state(BLOCKED + [block(30)]), state(BLOCKED))

    def test_of_a_cue_on_a_sheet_without_moves(self):
        rows = [record(1, 1, 1), release(1, 1), block(1)]
        self.assertEqual(last(rows), 1)
        self.assertEqual(state(rows), {1: ({}, True)})

    def test_edges_that_there_can_be(self):
        for cue in (1, 9999):
            self.assertEqual(state([record(cue, 1, 1), block(cue)]), {cue: ({1: 1}, True)})


class UnblockTest(unittest.TestCase):
    def test_needless_moves_are_gone(self):
        rows = BLOCKED + [unblock(30)]
        self.assertEqual(last(rows), 5)
        self.assertEqual(state(rows), state(PLAIN))

    def test_moves_to_0_of_the_first_cue_are_needless(self):
        rows = [record(1, 1, 0), record(1, 2, 5), block(1), unblock(1)]
        self.assertEqual(state(rows), {1: ({2: 5}, False)})

    def test_needless_is_told_from_the_cues_before_not_from_those_behind(self):
        rows = [record(1, 1, 10), record(2, 1, 20), record(3, 1, 20), block(2), unblock(2)]
        self.assertEqual(moves(rows), {1: {1: 10}, 2: {1: 20}, 3: {1: 20}})

    def test_needless_moves_of_other_cues_stay(self):
        rows = PLAIN + [record(20, 1, 50), record(40, 2, 20), block(30), unblock(30)]
        self.assertEqual(moves(rows)[20], {1: 50, 2: 20})
        self.assertEqual(moves(rows)[40], {1: 40, 2: 20})

    def test_other_cues_stay_blocked(self):
        rows = BLOCKED + [block(20), unblock(30)]
        self.assertEqual([cue[1] for cue in state(rows).values()], [False, True, False, False, False])

    def test_no_cue_is_held_for_one_that_is_blocked_no_more(self):
        self.assertEqual(moves(BLOCKED + [unblock(30), record(20, 9, 90)])[30], {3: 30})

    def test_edges_that_there_can_be(self):
        for cue in (1, 9999):
            self.assertEqual(last([record(cue, 1, 1), block(cue), unblock(cue)]), 1)


class LevelTest(unittest.TestCase):
    """What edits do to the looks of cues before and behind."""

    def test_recorded(self):
        self.assertEqual(level(PLAIN + [record(20, 1, 70, ALONE)], 10, 1), 50)
        self.assertEqual(level(PLAIN + [record(20, 1, 70, ALONE)], 20, 1), 70)
        self.assertEqual(level(PLAIN + [record(20, 1, 70, ALONE)], 30, 1), 50)
        self.assertEqual(level(PLAIN + [record(20, 1, 70, ON)], 10, 1), 50)
        self.assertEqual(level(PLAIN + [record(20, 1, 70, ON)], 30, 1), 70)
        self.assertEqual(level(PLAIN + [record(20, 1, 70, ON)], 50, 1), 40)
        self.assertEqual(level(BLOCKED + [record(20, 1, 70, ON)], 30, 1), 50)

    def test_released_and_deleted(self):
        self.assertEqual(level(PLAIN + [release(10, 1, ALONE)], 10, 1), 0)
        self.assertEqual(level(PLAIN + [release(10, 1, ALONE)], 20, 1), 50)
        self.assertEqual(level(PLAIN + [release(10, 1, ON)], 20, 1), 0)
        self.assertEqual(level(PLAIN + [delete(10, ALONE)], 20, 1), 50)
        self.assertEqual(level(PLAIN + [delete(10, ON)], 20, 1), 0)
        self.assertEqual(level(BLOCKED + [delete(10, ON)], 30, 1), 50)

    def test_copied(self):
        self.assertEqual(level(PLAIN + [copy(40, 25, ALONE)], 25, 1), 40)
        self.assertEqual(level(PLAIN + [copy(40, 25, ALONE)], 30, 1), 50)
        self.assertEqual(level(PLAIN + [copy(40, 25, ON)], 30, 1), 40)
        self.assertEqual(level(BLOCKED + [copy(40, 25, ON)], 30, 1), 50)

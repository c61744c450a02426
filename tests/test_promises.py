"""The promises, on many sheets, told by cues, moves, look, track and differ before and behind each call."""

import functools
import itertools
import random
import unittest

from cuesheets.sheets import answers
from tests.helper import (
    ALONE, BIGGEST, CHANNELS, MOST_CALLS, ON, ask_cues, ask_differ, ask_look, ask_moves, ask_track, block, clean, copy,
    delete, flat, level, looks, record, release, rows_of, split, state, told, told_all, tracked_looks, unblock,
)
from tests.model import Model

CUES = (1, 2, 3, 4, 5, 6, 7, 9998, 9999)
MANY_CUES = tuple(range(1, 30)) + (9998, 9999)
FEW_CHANNELS = (1, 2, 3, 64)
FEW_LEVELS = (0, 1, 50, 100)
EDITS = (0, 1, 2, 3)
QUESTIONS = (7, 8, 9, 10, 11)


def pick(source, good, wrong):
    return source.choice(wrong) if source.randrange(20) == 0 else source.choice(good)


def any_call(source, cues):
    """A call of any of the twelve kinds, with a number now and then that there can't be."""
    cue = pick(source, cues, (0, 10000, BIGGEST))
    other = pick(source, cues, (0, 10000, BIGGEST))
    channel = pick(source, FEW_CHANNELS, (0, 65, BIGGEST))
    how = pick(source, (ON, ALONE), (2, BIGGEST))
    kinds = [record(cue, channel, pick(source, FEW_LEVELS, (101, BIGGEST)), how)] * 8
    kinds += [release(cue, channel, how)] * 3 + [copy(other, cue, how)] * 3 + [block(cue)] * 2 + [unblock(cue)] * 3
    kinds += [delete(cue, how), clean(), ask_cues(), ask_moves(cue), ask_look(cue), ask_track(channel)]
    return source.choice(kinds + [ask_differ(cue, other)])


def any_calls(source, cues, count):
    return [any_call(source, cues) for turn in range(count)]


def filling(source, cues):
    """Calls that make 24 cues, whatever stands there already."""
    return [record(cue, source.choice(FEW_CHANNELS), source.choice(FEW_LEVELS)) for cue in source.sample(cues, 24)]


def probes(numbers):
    """Calls that tell all that these cues, all there are, hold."""
    asked = [row for number in numbers for row in (ask_moves(number), ask_look(number))]
    return [ask_cues()] + asked + [ask_track(channel) for channel in FEW_CHANNELS]


class Told:
    """What a sheet told: its cues (moves and whether it's blocked), their looks, and some channels' tracks."""

    def __init__(self, answer):
        found = rows_of(answer[0], 2)
        behind = 1 + 2 * len(found)
        self.cues = {}
        self.looks = {}
        for place, (number, blocked) in enumerate(found):
            self.cues[number] = (dict(rows_of(answer[1 + 2 * place], 2)), bool(blocked))
            self.looks[number] = answer[2 + 2 * place][1:]
        self.tracks = {}
        for channel, track in zip(FEW_CHANNELS, answer[behind:], strict=True):
            self.tracks[channel] = rows_of(track, 2)

    def all(self):
        return self.cues, self.looks, self.tracks


def traced(setup, rows):
    """Each of rows, made behind setup: the call, its answer, what the sheet told before it and behind it."""
    with_cues = setup + [ask_cues()] + flat([row, ask_cues()] for row in rows)
    there = [[number for number, blocked in rows_of(answer, 2)] for answer in told_all(with_cues)[len(setup)::2]]
    calls = setup + probes(there[0])
    for row, numbers in zip(rows, there[1:], strict=True):
        calls = calls + [row] + probes(numbers)
    answer = told_all(calls)
    place = len(setup) + len(probes(there[0]))
    before = Told(answer[len(setup):place])
    for row, numbers in zip(rows, there[1:], strict=True):
        end = place + 1 + len(probes(numbers))
        behind = Told(answer[place + 1:end])
        yield row, answer[place], before, behind
        place, before = end, behind


@functools.lru_cache(maxsize=None)
def steps():
    """Steps of many lists of calls, on sheets of a few cues and of 24."""
    found = []
    for case in range(250):
        source = random.Random(case)
        setup = any_calls(source, CUES, source.choice((0, 20, 80)))
        found += traced(setup, any_calls(source, CUES, 12))
    for case in range(80):
        source = random.Random(case)
        setup = any_calls(source, MANY_CUES, 60) + filling(source, MANY_CUES) + any_calls(source, MANY_CUES, 30)
        found += traced(setup, any_calls(source, MANY_CUES, 4))
    return found


def made(kinds, how=None):
    """The steps of calls of these kinds that aren't refused, with this how if one is told."""
    return [step for step in steps() if step[0][0] in kinds and step[1][0] >= 0 and how in (None, step[0][-1])]


def edited(call):
    """The number of the cue that a call is made on; None if there's none."""
    if call[0] == 3:
        return call[2]
    return call[1] if call[0] <= 5 else None


def tracked(before, number, channel):
    """The cues that a record on may change: those up to the next move or the next blocked cue."""
    found = []
    for other in sorted(before.cues):
        if other > number:
            if before.cues[other][1] or channel in before.cues[other][0]:
                return found
            found.append(other)
    return found


def fewest_moves(sheet):
    """The fewest moves with which all cues look as they do, blocked cues keeping theirs, by trying all ways.

    A move of a cue must be to the level that it looks, so that of each channel there's only to
    choose which cues have one.
    """
    numbers = sorted(sheet.cues)
    free = [number for number in numbers if not sheet.cues[number][1]]
    count = 0
    for channel in CHANNELS:
        wanted = [sheet.looks[number][channel - 1] for number in numbers]
        kept = [number for number in numbers if number not in free and channel in sheet.cues[number][0]]
        ways = (chosen for size in range(len(free) + 1) for chosen in itertools.combinations(free, size))
        count += next(len(way) + len(kept) for way in ways if levels_with(numbers, wanted, way + tuple(kept)) == wanted)
    return count


def levels_with(numbers, wanted, moved):
    found = []
    for number, level_there in zip(numbers, wanted, strict=True):
        found.append(level_there if number in moved else found[-1] if found else 0)
    return found


class StepsTest(unittest.TestCase):
    """That the steps hold what the promises are to be tried on."""

    def test_all_kinds_and_all_refusals(self):
        found = sorted({(call[0], min(answer[0], 0)) for call, answer, before, behind in steps()})
        self.assertEqual(found, [
            (0, -5), (0, -1), (0, 0), (1, -4), (1, -3), (1, -1), (1, 0), (2, -4), (2, -1), (2, 0),
            (3, -5), (3, -4), (3, -1), (3, 0), (4, -4), (4, 0), (5, -4), (5, -3), (5, 0), (6, 0), (7, 0),
            (8, -4), (8, 0), (9, -4), (9, 0), (10, -1), (10, 0), (11, -4), (11, 0),
        ])

    def test_edges(self):
        full = [step for step in steps() if len(step[2].cues) == 24]
        self.assertGreater(len(full), 50)
        self.assertGreater(len([step for step in full if any(cue[1] for cue in step[2].cues.values())]), 30)
        recorded = [call for call, answer, before, behind in made((0,))]
        for place, edges in ((1, (1, 9999)), (2, (1, 64)), (3, (0, 100)), (4, (ON, ALONE))):
            for edge in edges:
                self.assertIn(edge, [call[place] for call in recorded])


class PromiseTest(unittest.TestCase):
    def others_look_as_they_did(self, found, least):
        self.assertGreater(len(found), least)
        for call, answer, before, behind in found:
            for other in before.cues:
                if other != edited(call):
                    self.assertEqual(behind.looks[other], before.looks[other], call)

    def test_1_a_level_is_that_of_the_last_move(self):
        rows = [record(6, 2, 60), record(4, 1, 40), record(2, 1, 20), record(8, 1, 0), record(4, 64, 100)]
        self.assertEqual([level(rows, cue, 1) for cue in (2, 4, 6, 8)], [20, 40, 40, 0])
        self.assertEqual([level(rows, cue, 2) for cue in (2, 4, 6, 8)], [0, 0, 60, 60])
        self.assertEqual([level(rows, cue, 64) for cue in (2, 4, 6, 8)], [0, 100, 100, 100])

    def test_1_on_many_sheets(self):
        for call, answer, before, behind in steps():
            self.assertEqual(behind.looks, tracked_looks(behind.cues), call)

    def test_1_told_by_track(self):
        for call, answer, before, behind in steps():
            for channel, track in behind.tracks.items():
                self.assertEqual(track, [
                    (behind.looks[number][channel - 1], int(channel in behind.cues[number][0]))
                    for number in sorted(behind.cues)
                ])

    def test_1_told_by_differ(self):
        for case in range(30):
            source = random.Random(case)
            rows = any_calls(source, CUES, 150)
            found = looks(rows)
            for m, n in source.sample(list(itertools.product(found, found)), min(8, len(found) ** 2)):
                pairs = zip(CHANNELS, found[m], found[n], strict=True)
                expected = [(channel, here, there) for channel, here, there in pairs if here != there]
                self.assertEqual(rows_of(told(rows + [ask_differ(m, n)]), 3), expected)

    def test_2_recorded_alone_all_others_look_as_they_did(self):
        found = made((0,), ALONE)
        self.others_look_as_they_did(found, 100)
        for call, answer, before, behind in found:
            self.assertEqual(behind.looks[call[1]][call[2] - 1], call[3])

    def test_2_recorded_on_only_those_up_to_the_next_move_or_block_change(self):
        found = made((0,), ON)
        self.assertGreater(len(found), 100)
        for call, answer, before, behind in found:
            changed = tracked(before, call[1], call[2]) + [call[1]]
            for other in before.cues:
                expected = list(before.looks[other])
                if other in changed:
                    expected[call[2] - 1] = call[3]
                self.assertEqual(behind.looks[other], expected, call)

    def test_2_told_by_track_and_differ(self):
        before = [record(10, 1, 50), record(20, 2, 20), record(30, 3, 30), record(40, 1, 40)]
        alone = before + [record(20, 1, 70, ALONE)]
        self.assertEqual(told(alone + [ask_track(1)]), [4, 50, 1, 70, 1, 50, 1, 40, 1])
        self.assertEqual(told(alone + [ask_differ(10, 30)]), told(before + [ask_differ(10, 30)]))
        on = before + [record(20, 1, 70, ON)]
        self.assertEqual(told(on + [ask_track(1)]), [4, 50, 1, 70, 1, 70, 0, 40, 1])
        self.assertEqual(told(on + [ask_differ(10, 30)]), [3, 1, 50, 70, 2, 0, 20, 3, 0, 30])
        blocked = before + [block(30), record(20, 1, 70, ON)]
        self.assertEqual(told(blocked + [ask_track(1)]), [4, 50, 1, 70, 1, 50, 1, 40, 1])

    def test_alone_no_edit_changes_another_look(self):
        for kind in EDITS:
            self.others_look_as_they_did(made((kind,), ALONE), 10)

    def test_on_no_edit_changes_a_look_before_or_from_the_next_blocked_cue_on(self):
        for kind in EDITS:
            found = made((kind,), ON)
            self.assertGreater(len(found), 10)
            for call, answer, before, behind in found:
                number = edited(call)
                blocked = [other for other in before.cues if other > number and before.cues[other][1]]
                for other in before.cues:
                    if other < number or other >= min(blocked, default=BIGGEST):
                        self.assertEqual(behind.looks[other], before.looks[other], call)

    def test_3_a_blocked_cue_looks_as_it_did(self):
        count = 0
        for call, answer, before, behind in steps():
            for other in before.cues:
                if before.cues[other][1] and other != edited(call):
                    count += 1
                    self.assertEqual(behind.looks[other], before.looks[other], call)
                    self.assertTrue(behind.cues[other][1], call)
        self.assertGreater(count, 500)

    def test_3_block_and_unblock_change_no_look(self):
        for kind in (4, 5):
            found = made((kind,))
            self.assertGreater(len(found), 10)
            for call, answer, before, behind in found:
                self.assertEqual(behind.looks, before.looks, call)

    def test_4_a_copy_looks_as_its_source_did(self):
        found = made((3,))
        self.assertGreater(len(found), 100)
        for call, answer, before, behind in found:
            self.assertEqual(behind.looks[call[2]], before.looks[call[1]], call)

    def test_4_told_by_differ(self):
        for case in range(30):
            source = random.Random(case)
            rows = any_calls(source, CUES, 60)
            for first, second in itertools.permutations(state(rows), 2):
                self.assertEqual(told(rows + [copy(first, second, ALONE), ask_differ(first, second)]), [0])
                self.assertEqual(told(rows + [copy(first, second, ALONE), ask_differ(second, first)]), [0])

    def test_6_what_is_refused_changes_nothing(self):
        found = [step for step in steps() if step[1][0] < 0]
        self.assertGreater(len(found), 100)
        for call, answer, before, behind in found:
            self.assertEqual(len(answer), 1, call)
            self.assertEqual(behind.all(), before.all(), call)

    def test_6_what_only_asks_changes_nothing(self):
        for kind in QUESTIONS:
            found = made((kind,))
            self.assertGreater(len(found), 10)
            for call, answer, before, behind in found:
                self.assertEqual(behind.all(), before.all(), call)

    def test_6_without_them_all_others_are_answered_the_same(self):
        for case in range(30):
            rows = any_calls(random.Random(case), CUES, MOST_CALLS)
            kept = [(row, answer) for row, answer in zip(rows, told_all(rows), strict=True)
                    if answer[0] >= 0 and row[0] not in QUESTIONS]
            self.assertEqual(told_all([row for row, answer in kept]), [answer for row, answer in kept])

    def test_what_changes_the_sheet_answers_how_many_cues_it_has(self):
        for call, answer, before, behind in made(EDITS + (4, 5)):
            self.assertEqual(answer, [len(behind.cues)], call)


class CleanTest(unittest.TestCase):
    """Point 5, at the steps that clean and at sheets that are cleaned behind many calls."""

    def cleaned(self):
        found = made((6,))
        for case in range(120):
            source = random.Random(case)
            found += traced(any_calls(source, CUES, source.randrange(5, 150)), [clean()])
        for case in range(20):
            source = random.Random(case)
            found += traced(any_calls(source, MANY_CUES, 200) + filling(source, MANY_CUES), [clean()])
        self.assertGreater(len([step for step in found if step[2].cues != step[3].cues]), 100)
        self.assertGreater(len([step for step in found if any(cue[1] for cue in step[2].cues.values())]), 100)
        return found

    def test_5_all_cues_look_as_they_did(self):
        for call, answer, before, behind in self.cleaned():
            self.assertEqual(behind.looks, before.looks)

    def test_5_only_needless_moves_of_cues_that_are_not_blocked_are_gone(self):
        for call, answer, before, behind in self.cleaned():
            self.assertEqual(list(behind.cues), list(before.cues))
            look = [0] * 64
            for number, (moves, blocked) in before.cues.items():
                needed = {channel: there for channel, there in moves.items() if blocked or look[channel - 1] != there}
                self.assertEqual(behind.cues[number], (needed, blocked))
                look = before.looks[number]

    def test_5_it_answers_how_many_moves_there_are_then(self):
        for call, answer, before, behind in self.cleaned():
            self.assertEqual(answer, [sum(len(moves) for moves, blocked in behind.cues.values())])

    def test_5_no_sheet_that_looks_so_has_fewer_moves(self):
        count = 0
        for call, answer, before, behind in self.cleaned():
            if len(before.cues) <= 9:
                count += 1
                self.assertEqual(answer[0], fewest_moves(before))
        self.assertGreater(count, 100)


class ModelTest(unittest.TestCase):
    """The program beside a second one, written from the document's words by itself."""

    def same(self, rows):
        self.assertLessEqual(len(rows), MOST_CALLS)
        calls = flat(rows)
        handed = list(calls)
        found = answers(handed)
        model = Model()
        for row, answer in zip(rows, split(found), strict=True):
            self.assertEqual(answer, model.answer(row), row)
        self.assertEqual(handed, calls)
        self.assertEqual(answers(handed), found)

    def test_few_cues(self):
        for case in range(40):
            rows = any_calls(random.Random(case), CUES, 374)
            self.same(rows + [ask_cues()] + [ask_moves(cue) for cue in CUES] + [ask_look(cue) for cue in CUES])

    def test_24_cues(self):
        for case in range(20):
            source = random.Random(case)
            rows = any_calls(source, MANY_CUES, 60) + filling(source, MANY_CUES) + any_calls(source, MANY_CUES, 250)
            self.same(rows + [ask_cues()] + [ask_moves(cue) for cue in MANY_CUES] + [clean()])

    def test_all_channels(self):
        for case in range(10):
            source = random.Random(case)
            rows = [record(source.choice(CUES), channel, source.randrange(101), source.randrange(2))
                    for channel in source.choices(CHANNELS, k=250)]
            rows = rows + any_calls(source, CUES, 50) + [ask_track(channel) for channel in CHANNELS]
            self.same(rows + [ask_look(cue) for cue in CUES] + [clean()] + [ask_moves(cue) for cue in CUES])

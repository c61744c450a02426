"""The promises, on many sheets: the looks of all cues before and behind each call compared."""

import random
import unittest

from cuesheets.sheets import answers_on, look_at, look_before
from tests.helper import (
    ALONE, BIGGEST, CHANNELS, ON, asked_level, block, copy, delete, level, looks, record, release,
    seen, unblock,
)
from tests.model import Model

CUES = (1, 2, 3, 4, 5, 6, 7, 9998, 9999)
FEW_CHANNELS = (1, 2, 3, 64)
FEW_LEVELS = (0, 1, 50, 100)


def pick(source, good, wrong):
    return source.choice(wrong) if source.randrange(20) == 0 else source.choice(good)


def any_call(source, cues):
    cue = pick(source, cues, (0, 10000, BIGGEST))
    channel = pick(source, FEW_CHANNELS, (0, 65, BIGGEST))
    how = pick(source, (ON, ALONE), (2, BIGGEST))
    kind = source.randrange(12)
    if kind < 5:
        return record(cue, channel, pick(source, FEW_LEVELS, (101, BIGGEST)), how)
    if kind < 7:
        return release(cue, channel, how)
    if kind == 7:
        return delete(cue, how)
    if kind < 10:
        return copy(pick(source, cues, (0, 10000, BIGGEST)), cue, how)
    if kind == 10:
        return block(cue)
    return unblock(cue)


def steps(cases, length, cues):
    """Each call of many cases: the call, its answer, the sheet before it and behind it."""
    for case in range(cases):
        source = random.Random(case)
        sheet = {}
        for turn in range(length):
            call = any_call(source, cues)
            before = seen(sheet)
            answer = answers_on(sheet, call)
            yield call, answer[1], before, seen(sheet)


def tracked(before, number, channel):
    """The cues that a record on may change: those up to the next move or the next blocked cue."""
    found = []
    for other in sorted(before):
        if other > number:
            if before[other][1] or channel in before[other][0]:
                return found
            found.append(other)
    return found


class PromiseTest(unittest.TestCase):
    def test_1_a_level_is_that_of_the_last_move(self):
        sheet = {}
        answers_on(sheet, record(2, 1, 20) + record(4, 1, 40) + record(4, 64, 100) + record(6, 2, 60))
        self.assertEqual([look_at(sheet, number)[1] for number in range(1, 8)], [0, 20, 20, 40, 40, 40, 40])
        self.assertEqual([look_at(sheet, number)[64] for number in (2, 4, 6)], [0, 100, 100])
        self.assertEqual([look_before(sheet, number)[1] for number in (2, 4, 6)], [0, 20, 40])

    def test_1_asked_through_answers_alone(self):
        rows = [record(6, 2, 60), record(4, 1, 40), record(2, 1, 20), record(8, 1, 0)]
        self.assertEqual([asked_level(rows, cue, 1) for cue in (2, 4, 6, 8)], [20, 40, 40, 0])
        self.assertEqual([asked_level(rows, cue, 2) for cue in (2, 4, 6, 8)], [0, 0, 60, 60])

    def test_1_on_many_sheets(self):
        for case in range(40):
            source = random.Random(case)
            sheet = {}
            for turn in range(30):
                answers_on(sheet, any_call(source, CUES))
                held = seen(sheet)
                for number in sheet:
                    self.assertEqual(look_at(sheet, number)[1:], looks(held)[number])
                    self.assertEqual(
                        look_before(sheet, number)[1:],
                        [level(held, number - 1, channel) for channel in CHANNELS])

    def test_2_recorded_alone_all_others_look_as_they_did(self):
        count = 0
        for call, answer, before, behind in steps(150, 40, CUES):
            if call[0] == 0 and answer > 0 and call[4] == ALONE:
                count += 1
                was, now = looks(before), looks(behind)
                self.assertEqual(now[call[1]][call[2] - 1], call[3])
                for other in before:
                    if other != call[1]:
                        self.assertEqual(now[other], was[other], call)
        self.assertGreater(count, 100)

    def test_2_recorded_on_only_those_up_to_the_next_move_or_block_change(self):
        count = 0
        for call, answer, before, behind in steps(150, 40, CUES):
            if call[0] == 0 and answer > 0 and call[4] == ON:
                count += 1
                was, now = looks(before), looks(behind)
                changed = tracked(before, call[1], call[2]) + [call[1]]
                for other in before:
                    expected = was[other]
                    if other in changed:
                        expected[call[2] - 1] = call[3]
                    self.assertEqual(now[other], expected, call)
        self.assertGreater(count, 100)

    def test_alone_no_call_changes_another_look(self):
        count = 0
        for call, answer, before, behind in steps(150, 40, CUES):
            if call[0] in (1, 2, 3) and answer >= 0 and call[-1] == ALONE:
                count += 1
                edited = call[2] if call[0] == 3 else call[1]
                was, now = looks(before), looks(behind)
                for other in before:
                    if other != edited:
                        self.assertEqual(now[other], was[other], call)
        self.assertGreater(count, 100)

    def test_3_a_blocked_cue_looks_as_it_did(self):
        count = 0
        for call, answer, before, behind in steps(150, 40, CUES):
            edited = call[2] if call[0] == 3 else call[1]
            was, now = looks(before), looks(behind)
            for other in before:
                if before[other][1] and other != edited:
                    count += 1
                    self.assertEqual(now[other], was[other], call)
                    self.assertTrue(behind[other][1], call)
        self.assertGreater(count, 100)

    def test_3_block_and_unblock_change_no_look(self):
        count = 0
        for call, answer, before, behind in steps(150, 40, CUES):
            if call[0] in (4, 5) and answer > 0:
                count += 1
                self.assertEqual(looks(behind), looks(before), call)
        self.assertGreater(count, 100)

    def test_4_a_copy_looks_as_its_source_did(self):
        count = 0
        for call, answer, before, behind in steps(150, 40, CUES):
            if call[0] == 3 and answer > 0:
                count += 1
                self.assertEqual(looks(behind)[call[2]], looks(before)[call[1]], call)
        self.assertGreater(count, 100)

    def test_6_what_is_refused_changes_nothing(self):
        found = {}
        for cues in (CUES, tuple(range(1, 40))):
            for call, answer, before, behind in steps(60, 150, cues):
                if answer < 0:
                    found[call[0], answer] = True
                    self.assertEqual(behind, before, call)
                else:
                    self.assertEqual(answer, len(behind), call)
        self.assertEqual(sorted(found), [
            (0, -5), (0, -1), (1, -4), (1, -3), (1, -1), (2, -4), (2, -1),
            (3, -5), (3, -4), (3, -1), (4, -4), (5, -4), (5, -3),
        ])


class ModelTest(unittest.TestCase):
    """The program beside a second one, written from the document's words by itself."""

    def same(self, cases, length, cues):
        for case in range(cases):
            source = random.Random(case)
            model = Model()
            sheet = {}
            for turn in range(length):
                call = any_call(source, cues)
                self.assertEqual(answers_on(sheet, call), [1, model.answer(call)], call)
                self.assertEqual(seen(sheet), model.seen(), call)

    def test_few_cues(self):
        self.same(60, 60, CUES)

    def test_about_24_cues(self):
        self.same(8, 300, tuple(range(1, 40)))

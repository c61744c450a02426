"""What the tests share: the calls as rows, and ways to see what a sheet holds, through answers alone."""

from cuesheets.sheets import answers

ON = 0
ALONE = 1
BIGGEST = 4294967295
CHANNELS = range(1, 65)
MOST_CALLS = 400


def record(cue, channel, level, how=ON):
    return [0, cue, channel, level, how]


def release(cue, channel, how=ON):
    return [1, cue, channel, how]


def delete(cue, how=ON):
    return [2, cue, how]


def copy(source, to, how=ON):
    return [3, source, to, how]


def block(cue):
    return [4, cue]


def unblock(cue):
    return [5, cue]


def clean():
    return [6]


def ask_cues():
    return [7]


def ask_moves(cue):
    return [8, cue]


def ask_look(cue):
    return [9, cue]


def ask_track(channel):
    return [10, channel]


def ask_differ(m, n):
    return [11, m, n]


def flat(rows):
    return [number for row in rows for number in row]


def split(numbers):
    """The answers one by one, from the list that tells how long each is."""
    found = []
    place = 0
    while place < len(numbers):
        end = place + 1 + numbers[place]
        assert place + 1 < end <= len(numbers), (place, end)
        found.append(numbers[place + 1:end])
        place = end
    return found


def told_all(rows):
    """What each of these calls, on a new sheet, answers."""
    assert 1 <= len(rows) <= MOST_CALLS, len(rows)
    found = split(answers(flat(rows)))
    assert len(found) == len(rows), found
    return found


def told(rows):
    """What the last of these calls, on a new sheet, answers."""
    return told_all(rows)[-1]


def last(rows):
    """The one number that the last of these calls, on a new sheet, answers."""
    answer = told(rows)
    assert len(answer) == 1, answer
    return answer[0]


def rows_of(answer, width):
    """What an answer tells behind its first number, in rows of so many numbers, as many as that says."""
    found = [tuple(answer[place:place + width]) for place in range(1, len(answer), width)]
    assert answer[0] == len(found), answer
    assert all(len(row) == width for row in found), answer
    return found


def cues(rows):
    """The cues that a new sheet has after these calls, and whether each is blocked (1) or not (0)."""
    return rows_of(told(rows + [ask_cues()]), 2)


def state(rows):
    """What a new sheet holds after these calls: of each cue its moves, and whether it's blocked."""
    found = cues(rows)
    asked = told_all(rows + [ask_moves(number) for number, blocked in found] + [ask_cues()])
    answer = asked[len(rows):-1]
    return {cue[0]: (dict(rows_of(given, 2)), bool(cue[1])) for cue, given in zip(found, answer, strict=True)}


def moves(rows):
    return {number: cue[0] for number, cue in state(rows).items()}


def looks(rows):
    """The looks of all cues that a new sheet has after these calls, told by look."""
    numbers = [number for number, blocked in cues(rows)]
    answer = told_all(rows + [ask_look(number) for number in numbers] + [ask_cues()])[len(rows):-1]
    for given in answer:
        assert given[0] == 0 and len(given) == 65, given
    return {number: given[1:] for number, given in zip(numbers, answer, strict=True)}


def level(rows, cue, channel):
    """The channel's level at a cue after these calls, told by look."""
    return looks(rows)[cue][channel - 1]


def tracked_level(held, number, channel):
    """The level at a cue as the document defines it, from moves: that of the last there or before."""
    for other in sorted(held, reverse=True):
        if other <= number and channel in held[other][0]:
            return held[other][0][channel]
    return 0


def tracked_looks(held):
    """The looks of all cues, reckoned from their moves without the program's help."""
    return {number: [tracked_level(held, number, channel) for channel in CHANNELS] for number in held}

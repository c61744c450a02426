"""What the tests share: the calls as rows, and ways to see what a sheet holds."""

from cuesheets.sheets import answers, answers_on

ON = 0
ALONE = 1
BIGGEST = 4294967295
CHANNELS = range(1, 65)


def record(cue, channel, level, how=ON):
    return [0, cue, channel, level, how]


def release(cue, channel, how=ON):
    return [1, cue, channel, how]


def delete(cue, how=ON):
    return [2, cue, how]


def copy(source, to, how=ON):
    return [3, source, to, how]


def block(cue):
    return [4, cue]


def unblock(cue):
    return [5, cue]


def flat(rows):
    return [number for row in rows for number in row]


def split(numbers):
    """The answers one by one, from the list that tells how long each is."""
    found = []
    place = 0
    while place < len(numbers):
        end = place + 1 + numbers[place]
        found.append(numbers[place + 1:end])
        place = end
    return found


def last(rows):
    """What the last of these calls, on a new sheet, answers."""
    answer = split(answers(flat(rows)))
    assert len(answer) == len(rows), answer
    assert len(answer[-1]) == 1, answer
    return answer[-1][0]


def seen(sheet):
    """A sheet's cues, moves and blocks, as values of their own."""
    return {number: (dict(sheet[number].moves), sheet[number].blocked) for number in sorted(sheet)}


def state(rows):
    """What a new sheet holds after these calls."""
    sheet = {}
    answers_on(sheet, flat(rows))
    return seen(sheet)


def moves(rows):
    return {number: cue[0] for number, cue in state(rows).items()}


def level(held, number, channel):
    """The channel's level at a cue: that of its last move there or before."""
    for other in sorted(held, reverse=True):
        if other <= number and channel in held[other][0]:
            return held[other][0][channel]
    return 0


def looks(held):
    """The looks of all cues, told from their moves without the program's help."""
    return {number: [level(held, number, channel) for channel in CHANNELS] for number in held}


def has_move(rows, cue, channel):
    """Whether the cue has a move of the channel, asked through answers alone."""
    return last(rows + [release(cue, channel)]) != -3


def asked_level(rows, cue, channel):
    """The channel's level at a cue, asked through answers alone.

    A cue made right behind, blocked and unblocked, loses its move just when
    the level was that before. The number right behind must be free.
    """
    behind = cue + 1
    found = []
    for guess in range(101):
        probe = [record(behind, channel, guess), block(behind), unblock(behind)]
        if not has_move(rows + probe, behind, channel):
            found.append(guess)
    assert len(found) == 1, found
    return found[0]

"""Cue sheets: cues that tell only what moves, and the calls that change them or ask of them.

A sheet is a dict of its cues by their numbers. A look is a list of levels
whose place is the channel; place 0 stands for no channel and stays 0.
"""

LAST_NUMBER = 9999
LAST_CHANNEL = 64
TOP_LEVEL = 100
MOST_CUES = 24

ALONE = 1

IMPOSSIBLE = -1
NOT_SO = -3
NO_CUE = -4
NO_ROOM = -5

RECORD = 0
RELEASE = 1
DELETE = 2
COPY = 3
BLOCK = 4
UNBLOCK = 5
CLEAN = 6
CUES = 7
MOVES = 8
LOOK = 9
TRACK = 10

NUMBERS_BEHIND = {0: 4, 1: 3, 2: 2, 3: 3, 4: 1, 5: 1, 6: 0, 7: 0, 8: 1, 9: 1, 10: 1, 11: 2}


class Cue:
    """The moves of a cue, levels by channels, and whether it's blocked."""

    def __init__(self):
        self.moves = {}
        self.blocked = False


def is_number(number):
    return 1 <= number <= LAST_NUMBER


def is_channel(channel):
    return 1 <= channel <= LAST_CHANNEL


def is_level(level):
    return 0 <= level <= TOP_LEVEL


def is_how(how):
    return 0 <= how <= ALONE


def lacks_room(sheet, number):
    return number not in sheet and len(sheet) >= MOST_CUES


def look_at(sheet, number):
    """The look at a cue; for a number without a cue, what one made there would show."""
    levels = [0] * (LAST_CHANNEL + 1)
    for other in sorted(sheet):
        if other <= number:
            for channel, level in sheet[other].moves.items():
                levels[channel] = level
    return levels


def look_before(sheet, number):
    return look_at(sheet, number - 1)


def moves_of(sheet, number):
    """A copy of the cue's moves; none for a cue that isn't there."""
    if number in sheet:
        return dict(sheet[number].moves)
    return {}


def add_moves(moves, look, wanted):
    """Give moves a level at each channel where the look isn't the wanted one."""
    for channel in range(1, LAST_CHANNEL + 1):
        if look[channel] != wanted[channel]:
            moves[channel] = wanted[channel]


def drop_needless(sheet, number):
    before = look_before(sheet, number)
    moves = sheet[number].moves
    for channel in list(moves):
        if moves[channel] == before[channel]:
            moves.pop(channel)


def held_number(sheet, number, how):
    """The cue that keeps its look when cue number is edited; None if there's none."""
    for other in sorted(sheet):
        if other > number and (how == ALONE or sheet[other].blocked):
            return other
    return None


def replace_cue(sheet, number, moves):
    """Give a cue these moves, making it if need be; with None, take it away."""
    if moves is None:
        sheet.pop(number)
    else:
        if number not in sheet:
            sheet[number] = Cue()
        sheet[number].moves = moves


def edit(sheet, number, moves, how):
    """Replace a cue, hold the one behind it that is to be held, answer how many there are."""
    held = held_number(sheet, number, how)
    if held is None:
        replace_cue(sheet, number, moves)
    else:
        # All cues behind the held one follow from its look, so it alone needs holding.
        wanted = look_at(sheet, held)
        replace_cue(sheet, number, moves)
        add_moves(sheet[held].moves, look_at(sheet, held), wanted)
    return len(sheet)


def record_move(sheet, number, channel, level, how):
    if not (is_number(number) and is_channel(channel) and is_level(level) and is_how(how)):
        return IMPOSSIBLE
    if lacks_room(sheet, number):
        return NO_ROOM
    moves = moves_of(sheet, number)
    moves[channel] = level
    return edit(sheet, number, moves, how)


def release_move(sheet, number, channel, how):
    if not (is_number(number) and is_channel(channel) and is_how(how)):
        return IMPOSSIBLE
    if number not in sheet:
        return NO_CUE
    moves = moves_of(sheet, number)
    if channel not in moves:
        return NOT_SO
    moves.pop(channel)
    return edit(sheet, number, moves, how)


def delete_cue(sheet, number, how):
    if not (is_number(number) and is_how(how)):
        return IMPOSSIBLE
    if number not in sheet:
        return NO_CUE
    return edit(sheet, number, None, how)


def copy_cue(sheet, source, to, how):
    # A source that there can't be is no cue of the sheet: the document names no -1 for it.
    if not (is_number(to) and is_how(how)):
        return IMPOSSIBLE
    if source not in sheet:
        return NO_CUE
    if lacks_room(sheet, to):
        return NO_ROOM
    moves = moves_of(sheet, to)
    add_moves(moves, look_at(sheet, to), look_at(sheet, source))
    return edit(sheet, to, moves, how)


def block_cue(sheet, number):
    if number not in sheet:
        return NO_CUE
    cue = sheet[number]
    look = look_at(sheet, number)
    for other in sorted(sheet):
        for channel in list(sheet[other].moves):
            cue.moves.setdefault(channel, look[channel])
    cue.blocked = True
    return len(sheet)


def unblock_cue(sheet, number):
    if number not in sheet:
        return NO_CUE
    cue = sheet[number]
    if not cue.blocked:
        return NOT_SO
    cue.blocked = False
    drop_needless(sheet, number)
    return len(sheet)


def clean_sheet(sheet):
    """Take the needless moves of cues that aren't blocked away; answer how many moves are left."""
    for number in sorted(sheet):
        if not sheet[number].blocked:
            drop_needless(sheet, number)
    return sum([len(sheet[number].moves) for number in sorted(sheet)])


def told_cues(sheet):
    told = [len(sheet)]
    for number in sorted(sheet):
        told.extend([number, 1 if sheet[number].blocked else 0])
    return told


def told_moves(sheet, number):
    if number not in sheet:
        return [NO_CUE]
    moves = sheet[number].moves
    told = [len(moves)]
    for channel in sorted(moves):
        told.extend([channel, moves[channel]])
    return told


def told_look(sheet, number):
    if number not in sheet:
        return [NO_CUE]
    return [0] + look_at(sheet, number)[1:]


def told_track(sheet, channel):
    if not is_channel(channel):
        return [IMPOSSIBLE]
    told = [len(sheet)]
    level = 0
    for number in sorted(sheet):
        moves = sheet[number].moves
        level = moves.get(channel, level)
        told.extend([level, 1 if channel in moves else 0])
    return told


def told_differences(sheet, first, second):
    if first not in sheet or second not in sheet:
        return [NO_CUE]
    here = look_at(sheet, first)
    there = look_at(sheet, second)
    channels = [channel for channel in range(1, LAST_CHANNEL + 1) if here[channel] != there[channel]]
    told = [len(channels)]
    for channel in channels:
        told.extend([channel, here[channel], there[channel]])
    return told


def changed(sheet, call, numbers):
    """The one number that a call answers which changes the sheet."""
    if call == RECORD:
        return record_move(sheet, numbers[0], numbers[1], numbers[2], numbers[3])
    if call == RELEASE:
        return release_move(sheet, numbers[0], numbers[1], numbers[2])
    if call == DELETE:
        return delete_cue(sheet, numbers[0], numbers[1])
    if call == COPY:
        return copy_cue(sheet, numbers[0], numbers[1], numbers[2])
    if call == BLOCK:
        return block_cue(sheet, numbers[0])
    if call == UNBLOCK:
        return unblock_cue(sheet, numbers[0])
    return clean_sheet(sheet)


def asked(sheet, call, numbers):
    """All numbers that a call answers which only asks."""
    if call == CUES:
        return told_cues(sheet)
    if call == MOVES:
        return told_moves(sheet, numbers[0])
    if call == LOOK:
        return told_look(sheet, numbers[0])
    if call == TRACK:
        return told_track(sheet, numbers[0])
    # NUMBERS_BEHIND lets no call but differ come this far.
    return told_differences(sheet, numbers[0], numbers[1])


def answer_to(sheet, call, numbers):
    if call <= CLEAN:
        return [changed(sheet, call, numbers)]
    return asked(sheet, call, numbers)


def answers(calls):
    """For each call on a new sheet: how many numbers it answers, then these."""
    sheet = {}
    told = []
    place = 0
    while place < len(calls):
        call = calls[place]
        end = place + 1 + NUMBERS_BEHIND[call]
        answer = answer_to(sheet, call, calls[place + 1:end])
        told.append(len(answer))
        told.extend(answer)
        place = end
    return told

"""A second cue sheet for the tests: the document's words one by one, with nothing shared."""

import copy


class Model:
    def __init__(self):
        self.rows = []  # [number, [[channel, level], ..], blocked], in the order of the numbers

    def answer(self, call):
        calls = (
            self.record, self.release, self.delete, self.copy, self.block, self.unblock,
            self.clean, self.cues, self.moves, self.look, self.track, self.differ,
        )
        answer = calls[call[0]](*call[1:])
        return [answer] if isinstance(answer, int) else answer

    def row(self, number):
        for row in self.rows:
            if row[0] == number:
                return row
        return None

    def made(self, number):
        if self.row(number) is None:
            self.rows.append([number, [], False])
            self.rows.sort(key=lambda row: row[0])
        return self.row(number)

    @staticmethod
    def level(rows, number, channel):
        found = 0
        for other, moves, _ in rows:
            for moved, level in moves:
                if other <= number and moved == channel:
                    found = level
        return found

    @staticmethod
    def give(row, channel, level):
        row[1] = [move for move in row[1] if move[0] != channel] + [[channel, level]]

    def hold(self, number, how, old):
        for row in self.rows:
            if row[0] > number and (how == 1 or row[2]):
                for channel in range(1, 65):
                    had = self.level(old, row[0], channel)
                    if self.level(self.rows, row[0], channel) != had:
                        self.give(row, channel, had)
                break
        return len(self.rows)

    def record(self, cue, channel, level, how):
        if cue < 1 or cue > 9999 or channel < 1 or channel > 64 or level > 100 or how > 1:
            return -1
        if self.row(cue) is None and len(self.rows) == 24:
            return -5
        old = copy.deepcopy(self.rows)
        self.give(self.made(cue), channel, level)
        return self.hold(cue, how, old)

    def release(self, cue, channel, how):
        if cue < 1 or cue > 9999 or channel < 1 or channel > 64 or how > 1:
            return -1
        if self.row(cue) is None:
            return -4
        if channel not in [move[0] for move in self.row(cue)[1]]:
            return -3
        old = copy.deepcopy(self.rows)
        row = self.row(cue)
        row[1] = [move for move in row[1] if move[0] != channel]
        return self.hold(cue, how, old)

    def delete(self, cue, how):
        if cue < 1 or cue > 9999 or how > 1:
            return -1
        if self.row(cue) is None:
            return -4
        old = copy.deepcopy(self.rows)
        self.rows.remove(self.row(cue))
        return self.hold(cue, how, old)

    def copy(self, source, to, how):
        if to < 1 or to > 9999 or how > 1:
            return -1
        if self.row(source) is None:
            return -4
        if self.row(to) is None and len(self.rows) == 24:
            return -5
        old = copy.deepcopy(self.rows)
        row = self.made(to)
        for channel in range(1, 65):
            if self.level(old, to, channel) != self.level(old, source, channel):
                self.give(row, channel, self.level(old, source, channel))
        return self.hold(to, how, old)

    def block(self, cue):
        row = self.row(cue)
        if row is None:
            return -4
        for channel in {move[0] for other in self.rows for move in other[1]}:
            if channel not in [move[0] for move in row[1]]:
                self.give(row, channel, self.level(self.rows, cue, channel))
        row[2] = True
        return len(self.rows)

    def unblock(self, cue):
        row = self.row(cue)
        if row is None:
            return -4
        if not row[2]:
            return -3
        row[2] = False
        row[1] = [move for move in row[1] if self.level(self.rows, cue - 1, move[0]) != move[1]]
        return len(self.rows)

    def clean(self):
        # Needless is told of the sheet as it was: what goes changes no level before a cue.
        old = copy.deepcopy(self.rows)
        for row in self.rows:
            if not row[2]:
                row[1] = [move for move in row[1] if self.level(old, row[0] - 1, move[0]) != move[1]]
        return len([move for row in self.rows for move in row[1]])

    def cues(self):
        return [len(self.rows)] + [number for row in self.rows for number in (row[0], int(row[2]))]

    def moves(self, cue):
        if self.row(cue) is None:
            return -4
        ordered = sorted(self.row(cue)[1], key=lambda move: move[0])
        return [len(ordered)] + [number for move in ordered for number in move]

    def look(self, cue):
        if self.row(cue) is None:
            return -4
        return [0] + [self.level(self.rows, cue, channel) for channel in range(1, 65)]

    def track(self, channel):
        if channel < 1 or channel > 64:
            return -1
        answer = [len(self.rows)]
        for number, moves, _ in self.rows:
            answer.append(self.level(self.rows, number, channel))
            answer.append(len([move for move in moves if move[0] == channel]))
        return answer

    def differ(self, m, n):
        if self.row(m) is None or self.row(n) is None:
            return -4
        answer = [0]
        for channel in range(1, 65):
            here = self.level(self.rows, m, channel)
            there = self.level(self.rows, n, channel)
            if here != there:
                answer[0] += 1
                answer += [channel, here, there]
        return answer

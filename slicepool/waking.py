"""The calls on the event: key, sleep and wake."""

from slicepool.running import GAP, Running
from slicepool.trying import Trying


# An odd event stands for a key that somebody may sleep on; only a wake makes it even again.
def is_even(event):
    return event % 2 == 0


class Key(Running):
    def begin(self, board):
        return GAP

    def go_on(self, board):
        if is_even(board.event):
            board.event += 1
        return [0, board.event]


class Sleep(Running):
    def __init__(self, place, number):
        Running.__init__(self, place)
        self.number = number

    def begin(self, board):
        return [1] if board.event == self.number else [0]


class Wake(Trying):
    def begin(self, board):
        return self.attempt(board)

    def go_on(self, board):
        return self.compare(board)

    def look_up(self, board):
        return board.event

    # Whatever the event is, the rule writes another one: only a failed try ends a wake without a writing.
    def judge(self):
        return GAP

    def write(self, board):
        if is_even(self.seen):
            board.event = self.seen + 2
            return [0]
        board.event = self.seen + 1
        return [1]

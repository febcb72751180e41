"""The tries on a word, and the calls that make them on a ticket's slot: done, stop and clear."""

from slicepool.running import DISTURBED, GAP, NOT_THERE, NO_SUCH_SLICE, OUT_OF_RANGE, Running
from slicepool.slots import GIVEN, MARKS, MARKS_OF_A_WORD, MOST_SLICES, PHASE_FINISHED, PHASE_FREE, PHASE_OPEN
from slicepool.slots import STAMP, STOPPED, has_phase, is_complete, is_marked, slot_of, stamp_of, with_mark

ALREADY = 2


# The tries; each call says by look_up, judge and write which word it is, its rule, and what is written.
class Trying(Running):
    def __init__(self, place):
        Running.__init__(self, place)
        self.seen = None

    def attempt(self, board):
        self.seen = self.look_up(board)
        return self.judge()

    def compare(self, board):
        if self.look_up(board) == self.seen:
            return self.write(board)
        if self.is_last_fail():
            return [DISTURBED]
        return self.attempt(board)


# Tries with the finishing behind them; each call says by ended what it tells with 0 and 1.
class Finishing(Trying):
    def __init__(self, place, ticket):
        Trying.__init__(self, place)
        self.ticket = ticket
        self.stamp = stamp_of(ticket)
        self.written = False

    def go_on(self, board):
        if self.written:
            return self.finish(board)
        return self.compare(board)

    def begin_finish(self, slot):
        self.written = True
        if is_complete(slot):
            return GAP
        return self.ended(0)

    def finish(self, board):
        if not has_phase(board, self.ticket, PHASE_OPEN):
            return self.ended(0)
        slot = slot_of(board, self.ticket)
        slot.state = (self.stamp, PHASE_FINISHED)
        return self.ended(1)


class Done(Finishing):
    def __init__(self, place, ticket, k):
        Finishing.__init__(self, place, ticket)
        self.k = k

    def begin(self, board):
        if self.k >= MOST_SLICES:
            return [OUT_OF_RANGE]
        if not has_phase(board, self.ticket, PHASE_OPEN):
            return [NOT_THERE]
        if self.k >= slot_of(board, self.ticket).slices:
            return [NO_SUCH_SLICE]
        return self.attempt(board)

    def look_up(self, board):
        slot = slot_of(board, self.ticket)
        return slot.words[self.k // MARKS_OF_A_WORD]

    def judge(self):
        if self.seen[STAMP] != self.stamp:
            return [NOT_THERE]
        if is_marked(self.seen[MARKS], self.k):
            return [ALREADY]
        return GAP

    def write(self, board):
        slot = slot_of(board, self.ticket)
        slot.words[self.k // MARKS_OF_A_WORD] = (self.stamp, with_mark(self.seen[MARKS], self.k))
        return self.begin_finish(slot)

    def ended(self, number):
        return [number]


class Stop(Finishing):
    def begin(self, board):
        if not has_phase(board, self.ticket, PHASE_OPEN):
            return [NOT_THERE]
        return self.attempt(board)

    def look_up(self, board):
        return slot_of(board, self.ticket).giving

    def judge(self):
        if self.seen[STAMP] != self.stamp:
            return [NOT_THERE]
        if self.seen[STOPPED] == 1:
            return self.ended(ALREADY)
        return GAP

    def write(self, board):
        slot = slot_of(board, self.ticket)
        slot.giving = (self.stamp, self.seen[GIVEN], 1)
        return self.begin_finish(slot)

    def ended(self, number):
        return [number, self.seen[GIVEN]]


class Clear(Trying):
    def __init__(self, place, ticket):
        Trying.__init__(self, place)
        self.ticket = ticket
        self.stamp = stamp_of(ticket)

    def begin(self, board):
        return self.attempt(board)

    def go_on(self, board):
        return self.compare(board)

    def look_up(self, board):
        return slot_of(board, self.ticket).state

    def judge(self):
        if self.seen == (self.stamp, PHASE_FINISHED):
            return GAP
        return [NOT_THERE]

    def write(self, board):
        slot = slot_of(board, self.ticket)
        slot.state = (self.stamp + 1, PHASE_FREE)
        return [0]

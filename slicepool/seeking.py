"""The calls that go through the slots from 0 on: offer and take."""

from slicepool.running import DISTURBED, GAP, NOT_THERE, OUT_OF_RANGE, Running
from slicepool.slots import GIVEN, MOST_SLICES, PHASE, PHASE_FREE, PHASE_LAID, PHASE_OPEN, SLOTS, STAMP, STOPPED
from slicepool.slots import ticket_of, unmarked_words

# What an offer does behind the gap at which it stands.
CLAIM = 0
LAY = 1
SHOW = 2


class Offer(Running):
    def __init__(self, place, slices, kind, job):
        Running.__init__(self, place)
        self.slices = slices
        self.kind = kind
        self.job = job
        self.at = 0
        self.seen = None
        self.stage = CLAIM

    def begin(self, board):
        if self.slices < 1 or self.slices > MOST_SLICES:
            return [OUT_OF_RANGE]
        return self.seek(board)

    def go_on(self, board):
        slot = board.slots[self.at]
        if self.stage == CLAIM:
            return self.claim(board, slot)
        if self.stage == LAY:
            return self.lay(slot)
        return self.show(slot)

    def seek(self, board):
        while self.at < SLOTS:
            self.seen = board.slots[self.at].state
            if self.seen[PHASE] == PHASE_FREE:
                return GAP
            self.at += 1
        return [NOT_THERE]

    def claim(self, board, slot):
        if slot.state == self.seen:
            slot.state = (self.seen[STAMP], PHASE_LAID)
            self.stage = LAY
            return GAP
        # Two slots make two such gaps at most, but the rule is the document's, whatever the number of slots.
        if self.is_last_fail():
            return [DISTURBED]
        self.at += 1
        return self.seek(board)

    def lay(self, slot):
        stamp = self.seen[STAMP]
        slot.giving = (stamp, 0, 0)
        slot.slices = self.slices
        slot.kind = self.kind
        slot.job = self.job
        slot.words = unmarked_words(stamp)
        self.stage = SHOW
        return GAP

    def show(self, slot):
        stamp = self.seen[STAMP]
        slot.state = (stamp, PHASE_OPEN)
        return [0, ticket_of(stamp, self.at)]


class Take(Running):
    def __init__(self, place):
        Running.__init__(self, place)
        self.at = 0
        self.seen = None
        self.told = None

    def begin(self, board):
        return self.seek(board)

    def go_on(self, board):
        slot = board.slots[self.at]
        if slot.giving == self.seen:
            slot.giving = (self.seen[STAMP], self.seen[GIVEN] + 1, self.seen[STOPPED])
            return self.told
        if self.is_last_fail():
            return [DISTURBED]
        return self.seek(board)

    def seek(self, board):
        while self.at < SLOTS:
            slot = board.slots[self.at]
            if has_slice_left(slot):
                self.keep(slot)
                return GAP
            self.at += 1
        return [NOT_THERE]

    def keep(self, slot):
        # All that is told is kept now: behind the gap another job may lie in the slot.
        self.seen = slot.giving
        ticket = ticket_of(slot.state[STAMP], self.at)
        self.told = [0, ticket, slot.giving[GIVEN], slot.kind] + list(slot.job)


def has_slice_left(slot):
    if slot.state[PHASE] != PHASE_OPEN or slot.giving[STAMP] != slot.state[STAMP]:
        return False
    return slot.giving[STOPPED] == 0 and slot.giving[GIVEN] < slot.slices

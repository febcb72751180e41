"""The calls that ask how a ticket stands: again and look."""

from slicepool.running import GAP, NOT_THERE, Running
from slicepool.slots import PHASE_FINISHED, PHASE_OPEN
from slicepool.slots import count_done, given_of, has_phase, is_complete, is_done, slot_of, stamp_of


class Again(Running):
    def __init__(self, place, ticket):
        Running.__init__(self, place)
        self.ticket = ticket

    def begin(self, board):
        if not has_phase(board, self.ticket, PHASE_OPEN):
            return [NOT_THERE]
        slot = slot_of(board, self.ticket)
        for k in range(given_of(slot)):
            if not is_done(slot, k):
                return [1, k]
        return [0, 0]


class Look(Running):
    def __init__(self, place, ticket):
        Running.__init__(self, place)
        self.ticket = ticket

    def begin(self, board):
        if has_phase(board, self.ticket, PHASE_FINISHED):
            return self.ended(board, 1)
        if not has_phase(board, self.ticket, PHASE_OPEN):
            return [NOT_THERE]
        if is_complete(slot_of(board, self.ticket)):
            return GAP
        return self.ended(board, 0)

    def go_on(self, board):
        slot = slot_of(board, self.ticket)
        if has_phase(board, self.ticket, PHASE_OPEN):
            slot.state = (stamp_of(self.ticket), PHASE_FINISHED)
        if has_phase(board, self.ticket, PHASE_FINISHED):
            return self.ended(board, 1)
        return [NOT_THERE]

    def ended(self, board, number):
        slot = slot_of(board, self.ticket)
        return [number, given_of(slot), count_done(slot)]

"""A line of calls on one new board, and what they answer."""

from slicepool.asking import Again, Look
from slicepool.seeking import Offer, Take
from slicepool.slots import Board, MARKS, STAMP
from slicepool.trying import Clear, Done, Stop
from slicepool.waking import Key, Sleep, Wake

PARTIES = 4

OFFER = 0
TAKE = 1
AGAIN = 2
DONE = 3
STOP = 4
LOOK = 5
CLEAR = 6
KEY = 7
SLEEP = 8
GO = 10
GONE = 11
BOARD = 12

# How many whole numbers stand behind each call's own, rows not counted.
NUMBERS = (3, 1, 2, 3, 2, 2, 2, 1, 2, 1, 1, 1, 0)

AT_GAP = 0
AT_END = 1
IS_GONE = 2
IS_BOARD = 3
NO_PARTY = -1
OUT_OF_TURN = -9


class Line:
    def __init__(self):
        self.board = Board()
        self.running = [None for party in range(PARTIES)]


def answers(calls):
    line = Line()
    told = []
    at = 0
    while at < len(calls):
        place = calls[at]
        job_at = at + 1 + NUMBERS[place]
        numbers = calls[at + 1:job_at]
        job = ()
        at = job_at
        if place == OFFER:
            at = job_at + 1 + calls[job_at]
            job = tuple(calls[job_at + 1:at])
        answer = answer_call(line, place, numbers, job)
        told.append(len(answer))
        told.extend(answer)
    return told


def answer_call(line, place, numbers, job):
    if place == BOARD:
        return [IS_BOARD] + tell_board(line.board)
    party = numbers[0]
    if party >= PARTIES:
        return [NO_PARTY]
    is_begun = line.running[party] is not None
    begins = place < GO
    if is_begun == begins:
        return [OUT_OF_TURN]
    if begins:
        call = new_call(place, numbers, job)
        return after_step(line, party, call, call.begin(line.board))
    if place == GONE:
        line.running[party] = None
        return [IS_GONE]
    call = line.running[party]
    return after_step(line, party, call, call.go_on(line.board))


def after_step(line, party, call, told):
    if told is None:
        line.running[party] = call
        return [AT_GAP]
    line.running[party] = None
    return [AT_END, call.place] + told


def new_call(place, numbers, job):
    if place == OFFER:
        return Offer(place, numbers[1], numbers[2], job)
    if place == TAKE:
        return Take(place)
    if place == AGAIN:
        return Again(place, numbers[1])
    if place == DONE:
        return Done(place, numbers[1], numbers[2])
    if place == STOP:
        return Stop(place, numbers[1])
    if place == LOOK:
        return Look(place, numbers[1])
    if place == CLEAR:
        return Clear(place, numbers[1])
    if place == KEY:
        return Key(place)
    if place == SLEEP:
        return Sleep(place, numbers[1])
    return Wake(place)


def tell_board(board):
    told = [board.event]
    for slot in board.slots:
        told.extend(slot.state + slot.giving + (slot.slices, slot.kind))
        for word in slot.words:
            told.append(word[STAMP])
            told.extend(word[MARKS])
    return told

"""The board, its two slots, and what is found out of a slot by looking."""

SLOTS = 2
WORDS = 4
MARKS_OF_A_WORD = 8
MOST_SLICES = 32

PHASE_FREE = 0
PHASE_LAID = 1
PHASE_OPEN = 2
PHASE_FINISHED = 4

# The places within a state (stamp, phase), a giving (stamp, given, stopped) and a word (stamp, marks).
STAMP = 0
PHASE = 1
GIVEN = 1
STOPPED = 2
MARKS = 1

NO_MARKS = (0, 0, 0, 0, 0, 0, 0, 0)


# What is compared and written as one is one tuple, so that a call can keep what it saw.
# The document's "next" is called giving here.
class Slot:
    def __init__(self):
        self.state = (0, PHASE_FREE)
        self.giving = (0, 0, 0)
        self.slices = 0
        self.kind = 0
        self.job = ()
        self.words = unmarked_words(0)


class Board:
    def __init__(self):
        self.event = 0
        self.slots = [Slot() for number in range(SLOTS)]


def unmarked_words(stamp):
    return [(stamp, NO_MARKS) for number in range(WORDS)]


def ticket_of(stamp, number):
    return SLOTS * stamp + number


def stamp_of(ticket):
    return ticket // SLOTS


def slot_of(board, ticket):
    return board.slots[ticket % SLOTS]


def has_phase(board, ticket, phase):
    return slot_of(board, ticket).state == (stamp_of(ticket), phase)


def limit_of(slot):
    if slot.giving[STOPPED] == 1:
        return slot.giving[GIVEN]
    return slot.slices


def given_of(slot):
    if slot.giving[STOPPED] == 1:
        return slot.giving[GIVEN]
    return min(slot.giving[GIVEN], slot.slices)


def is_marked(marks, k):
    return marks[k % MARKS_OF_A_WORD] == 1


def with_mark(marks, k):
    at = k % MARKS_OF_A_WORD
    return marks[:at] + (1,) + marks[at + 1:]


def is_done(slot, k):
    return is_marked(slot.words[k // MARKS_OF_A_WORD][MARKS], k)


def count_done(slot):
    return len([k for k in range(limit_of(slot)) if is_done(slot, k)])


def is_complete(slot):
    return count_done(slot) == limit_of(slot)

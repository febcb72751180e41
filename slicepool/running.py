"""What every call of a party has in common, and the numbers that calls answer."""

# What begin and go_on of a call give back where it stands at a gap; at its end they give back a list.
GAP = None

NOT_THERE = -1
DISTURBED = -2
NO_SUCH_SLICE = -3
OUT_OF_RANGE = -4

TRIES = 3


# A call that a party is in: place is its number among the calls, fails how many comparisons failed.
class Running:
    def __init__(self, place):
        self.place = place
        self.fails = 0

    def is_last_fail(self):
        self.fails += 1
        return self.fails == TRIES

"""What the tests share: how calls are written, and how a line is checked answer by answer."""

import unittest

from slicepool.board import answers

GAP = [0]


def offer(party, n, kind=0, job=()):
    return [0, party, n, kind, len(job)] + list(job)


def take(party):
    return [1, party]


def again(party, t):
    return [2, party, t]


def done(party, t, k):
    return [3, party, t, k]


def stop(party, t):
    return [4, party, t]


def look(party, t):
    return [5, party, t]


def clear(party, t):
    return [6, party, t]


def key(party):
    return [7, party]


def sleep(party, x):
    return [8, party, x]


def wake(party):
    return [9, party]


def go(party):
    return [10, party]


def gone(party):
    return [11, party]


def board():
    return [12]


def gos(party, times):
    return [go(party)] * times


def offered(party, n, kind=0, job=()):
    """An offer from its beginning to its end, if nobody disturbs it."""
    return [offer(party, n, kind, job)] + gos(party, 3)


def taken(party, times=1):
    return [take(party), go(party)] * times


def called_done(party, t, ks):
    """Dones from beginning to end of slices that leave the ticket incomplete."""
    return [call for k in ks for call in (done(party, t, k), go(party))]


def finished(party, t, ks):
    """As called_done, but the last one completes the ticket and finishes it."""
    return called_done(party, t, ks) + [go(party)]


def cleared(party, t):
    return [clear(party, t), go(party)]


def used_up(party, t):
    """A job of one slice from its offer to its clearing."""
    return offered(party, 1) + taken(party) + finished(party, t, [0]) + cleared(party, t)


def split(told):
    """The answers' one list, cut into a list for each call."""
    rows = []
    at = 0
    while at < len(told):
        count = told[at]
        rows.append(told[at + 1:at + 1 + count])
        if len(rows[-1]) != count or count < 1:
            raise ValueError(f"the answers end within one: {told}")
        at += 1 + count
    return rows


def run(calls):
    rows = split(answers([number for call in calls for number in call]))
    if len(rows) != len(calls):
        raise ValueError(f"{len(calls)} calls, {len(rows)} answers")
    return rows


class LineTest(unittest.TestCase):
    def check(self, before, rows):
        """After the calls before, each call of rows answers as the list beside it says."""
        calls = before + [call for call, told in rows]
        answered = run(calls)[len(before):]
        for place, (call, told) in enumerate(rows):
            self.assertEqual(answered[place], told, f"row {place}: {call}")

    def slot(self, calls, number):
        """A slot as the board tells it behind the calls: state, next, how many, kind, words."""
        told = run(calls + [board()])[-1]
        self.assertEqual(len(told), 2 + 2 * 43)
        row = told[2 + 43 * number:2 + 43 * (number + 1)]
        words = [(row[at], row[at + 1:at + 9]) for at in range(7, 43, 9)]
        return {"state": row[0:2], "next": row[2:5], "slices": row[5], "kind": row[6], "words": words}

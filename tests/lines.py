"""What the tests share: how calls are written, and how a line is checked answer by answer."""

import unittest

from slicepool.board import answers

GAP = [0]


def offer(party, n, kind=0, job=()):
    return [0, party, n, kind, len(job)] + list(job)


def take(party):
    return [1, party]


def again(party, t):
    return [2, party, t]


def done(party, t, k):
    return [3, party, t, k]


def stop(party, t):
    return [4, party, t]


def look(party, t):
    return [5, party, t]


def clear(party, t):
    return [6, party, t]


def key(party):
    return [7, party]


def sleep(party, x):
    return [8, party, x]


def wake(party):
    return [9, party]


def go(party):
    return [10, party]


def gone(party):
    return [11, party]


def board():
    return [12]


def gos(party, times):
    return [go(party)] * times


def offered(party, n, kind=0, job=()):
    """An offer from its beginning to its end, if nobody disturbs it."""
    return [offer(party, n, kind, job)] + gos(party, 3)


def taken(party, times=1):
    return [take(party), go(party)] * times


def called_done(party, t, ks):
    """Dones from beginning to end of slices that leave the ticket incomplete."""
    return [call for k in ks for call in (done(party, t, k), go(party))]


def finished(party, t, ks):
    """As called_done, but the last one completes the ticket and finishes it."""
    return called_done(party, t, ks) + [go(party)]


def cleared(party, t):
    return [clear(party, t), go(party)]


def used_up(party, t):
    """A job of one slice from its offer to its clearing."""
    return offered(party, 1) + taken(party) + finished(party, t, [0]) + cleared(party, t)


def keyed(party):
    return [key(party), go(party)]


def woken(party):
    return [wake(party), go(party)]


def beginnings(party):
    """Each of the calls that a party begins, in ways that find something and in ways that find nothing."""
    return [offer(party, 1), offer(party, 0), offer(party, 2, 3, [4, 5, 6, 7]), take(party), again(party, 0),
            done(party, 0, 0), done(party, 0, 32), stop(party, 0), look(party, 0), clear(party, 0),
            key(party), sleep(party, 0), wake(party)]


HALF_OPEN = offered(0, 3, 7, [5]) + taken(1, 2)
READY = offered(0, 3, 7, [5]) + [stop(0, 0)] + gos(0, 2)

# Each call of party 2 in each way through its gaps: what came before, the call, what others do in each of its gaps (so
# there are as many gaps as lists), and how it ends.
SCENES = {
    "offer": ([], offer(2, 3, 4, [5]), [[], [], []], [1, 0, 0, 0]),
    "offer in the second slot": (offered(0, 1), offer(2, 3, 4, [5]), [[], [], []], [1, 0, 0, 1]),
    "offer disturbed": ([], offer(2, 3), [[offer(0, 1), go(0)], [], [], []], [1, 0, 0, 1]),
    "offer disturbed twice": ([], offer(2, 3), [[offer(0, 1), go(0)], [offer(1, 1), go(1)]], [1, 0, -1]),
    "offer without a slot": (offered(0, 1) + offered(1, 1), offer(2, 3), [], [1, 0, -1]),
    "offer of no slices": ([], offer(2, 0), [], [1, 0, -4]),
    "take": (HALF_OPEN, take(2), [[]], [1, 1, 0, 0, 2, 7, 5]),
    "take disturbed": (offered(0, 9), take(2), [taken(1), []], [1, 1, 0, 0, 1, 0]),
    "take disturbed twice": (offered(0, 9), take(2), [taken(1), taken(1), []], [1, 1, 0, 0, 2, 0]),
    "take disturbed three times": (offered(0, 9), take(2), [taken(1)] * 3, [1, 1, -2]),
    "take of nothing": ([], take(2), [], [1, 1, -1]),
    "again": (HALF_OPEN, again(2, 0), [], [1, 2, 1, 0]),
    "done": (HALF_OPEN, done(2, 0, 1), [[]], [1, 3, 0]),
    "last done": (offered(0, 1) + taken(1), done(2, 0, 0), [[], []], [1, 3, 1]),
    "done disturbed": (HALF_OPEN, done(2, 0, 1), [called_done(1, 0, [0]), []], [1, 3, 0]),
    "last done disturbed twice": (HALF_OPEN + taken(1), done(2, 0, 1), [
        called_done(1, 0, [0]), called_done(1, 0, [2]), [], []], [1, 3, 1]),
    "last done and another's finish": (offered(0, 1) + taken(1), done(2, 0, 0), [[], [look(1, 0), go(1)]], [1, 3, 0]),
    "done disturbed three times": (offered(0, 9) + taken(1, 4), done(2, 0, 3), [
        called_done(1, 0, [k]) for k in range(3)], [1, 3, -2]),
    "stop": (HALF_OPEN, stop(2, 0), [[]], [1, 4, 0, 2]),
    "last stop": (offered(0, 3), stop(2, 0), [[], []], [1, 4, 1, 0]),
    "stop disturbed": (offered(0, 9), stop(2, 0), [taken(1), []], [1, 4, 0, 1]),
    "last stop disturbed twice": (offered(0, 9), stop(2, 0), [
        taken(1), taken(1) + called_done(1, 0, [0, 1]), [], []], [1, 4, 1, 2]),
    "stop disturbed three times": (offered(0, 9), stop(2, 0), [taken(1)] * 3, [1, 4, -2]),
    "look": (offered(0, 3) + [stop(0, 0), go(0)], look(2, 0), [[]], [1, 5, 1, 0, 0]),
    "look and another's finish": (offered(0, 3) + [stop(0, 0), go(0)], look(2, 0), [[go(0)]], [1, 5, 1, 0, 0]),
    "look at what is not complete": (HALF_OPEN, look(2, 0), [], [1, 5, 0, 2, 0]),
    "clear": (READY, clear(2, 0), [[]], [1, 6, 0]),
    "clear and another's": (READY, clear(2, 0), [cleared(1, 0)], [1, 6, -1]),
    "key": ([], key(2), [[]], [1, 7, 0, 1]),
    "key at an odd event": (woken(0) + keyed(0), key(2), [[]], [1, 7, 0, 3]),
    "key and another's wake": (keyed(0), key(2), [woken(1)], [1, 7, 0, 3]),
    "sleep": (keyed(0), sleep(2, 1), [], [1, 8, 1]),
    "wake": ([], wake(2), [[]], [1, 9, 0]),
    "wake at an odd event": (keyed(0), wake(2), [[]], [1, 9, 1]),
    "wake disturbed": (keyed(0), wake(2), [woken(1), []], [1, 9, 0]),
    "wake disturbed twice": ([], wake(2), [woken(1), keyed(1), []], [1, 9, 1]),
    "wake disturbed three times": ([], wake(2), [woken(1), keyed(1), woken(1)], [1, 9, -2]),
}


def gaps_of_scenes():
    """Of each scene each of its gaps: its name, and the calls up to where party 2 stands at that gap."""
    for name, (before, call, in_gaps, end) in SCENES.items():
        calls = before + [call]
        for others in in_gaps:
            yield name, calls
            calls = calls + others + [go(2)]


def split(told):
    """The answers' one list, cut into a list for each call."""
    rows = []
    at = 0
    while at < len(told):
        count = told[at]
        rows.append(told[at + 1:at + 1 + count])
        if len(rows[-1]) != count or count < 1:
            raise ValueError(f"the answers end within one: {told}")
        at += 1 + count
    return rows


def run(calls):
    rows = split(answers([number for call in calls for number in call]))
    if len(rows) != len(calls):
        raise ValueError(f"{len(calls)} calls, {len(rows)} answers")
    return rows


class LineTest(unittest.TestCase):
    def check(self, before, rows):
        """After the calls before, each call of rows answers as the list beside it says."""
        calls = before + [call for call, told in rows]
        answered = run(calls)[len(before):]
        for place, (call, told) in enumerate(rows):
            self.assertEqual(answered[place], told, f"row {place}: {call}")

    def event(self, calls):
        """The event as the board tells it behind the calls."""
        return run(calls + [board()])[-1][1]

    def slot(self, calls, number):
        """A slot as the board tells it behind the calls: state, next, how many, kind, words."""
        told = run(calls + [board()])[-1]
        self.assertEqual(len(told), 2 + 2 * 43)
        row = told[2 + 43 * number:2 + 43 * (number + 1)]
        words = [(row[at], row[at + 1:at + 9]) for at in range(7, 43, 9)]
        return {"state": row[0:2], "next": row[2:5], "slices": row[5], "kind": row[6], "words": words}

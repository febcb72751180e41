"""Point 4: done and stop tell the finish once; clear answers 0 once, and nothing of the ticket is given out behind it."""

import random
import unittest

from lines import again, called_done, clear, done, go, gone, look, offer, offered, run, stop, take, taken


def orders(before, scripts):
    """Every order in which the parties can go through their scripts, each call to its end: (calls, answers)."""
    waiting = [before]
    while waiting:
        calls = waiting.pop()
        told = run(calls)
        at_gap, left = standing(calls[len(before):], told[len(before):], scripts)
        if not at_gap and not any(left.values()):
            yield calls, told
        for party in scripts:
            if party in at_gap:
                waiting.append(calls + [go(party)])
            elif left[party]:
                waiting.append(calls + [left[party][0]])


def standing(calls, told, scripts):
    at_gap = {}
    left = {party: list(script) for party, script in scripts.items()}
    for call, answer in zip(calls, told):
        party = call[1]
        if call[0] < 10:
            left[party].pop(0)
        at_gap.pop(party, None)
        if answer == [0]:
            at_gap[party] = True
    return at_gap, left


class Promise4Test(unittest.TestCase):
    def hold(self, calls, told):
        """Goes through a line; gives back of each ticket how often done or stop told it as finished."""
        begun = {}
        finishes = {}
        clears = {}
        for call, answer in zip(calls, told):
            if call[0] < 10 and answer[0] >= 0:
                begun[call[1]] = call
            if answer[0] != 1:
                continue
            place, number = answer[1:3]
            if place in (3, 4) and number == 1:
                t = begun[call[1]][2]
                finishes[t] = finishes.get(t, 0) + 1
                self.assertEqual(finishes[t], 1, f"finish of {t} told again: {calls}")
                self.assertNotIn(t, clears, f"finish of {t} told behind its clear: {calls}")
            if place == 6 and number == 0:
                t = begun[call[1]][2]
                self.assertNotIn(t, clears, f"{t} cleared again: {calls}")
                clears[t] = True
            if place == 1 and number == 0:
                self.assertNotIn(answer[3], clears, f"{answer[3]} given out behind its clear: {calls}")
        return finishes, clears

    def every_order(self, before, scripts, finish_is_told=None, is_cleared=None):
        count = 0
        for calls, told in orders(before, scripts):
            finishes, clears = self.hold(calls, told)
            if finish_is_told is not None:
                self.assertEqual(finishes.get(0, 0), finish_is_told, calls)
            if is_cleared is not None:
                self.assertEqual(0 in clears, is_cleared, calls)
            count += 1
        self.assertGreater(count, 1)

    def test_two_last_dones(self):
        before = offered(0, 2) + taken(1) + taken(2)
        self.every_order(before, {1: [done(1, 0, 0)], 2: [done(2, 0, 1)]}, finish_is_told=1)

    def test_three_last_dones(self):
        before = offered(0, 3) + taken(1) + taken(2) + taken(3)
        self.every_order(before, {p: [done(p, 0, p - 1)] for p in (1, 2, 3)}, finish_is_told=1)

    def test_dones_of_one_slice(self):
        before = offered(0, 1) + taken(1)
        self.every_order(before, {p: [done(p, 0, 0)] for p in (1, 2, 3)}, finish_is_told=1)

    def test_stops(self):
        before = offered(0, 3) + taken(1) + called_done(1, 0, [0])
        self.every_order(before, {p: [stop(p, 0)] for p in (1, 2, 3)}, finish_is_told=1)

    def test_done_and_stop(self):
        before = offered(0, 3) + taken(1, 2)
        self.every_order(before, {1: [done(1, 0, 0)], 2: [done(2, 0, 1)], 3: [stop(3, 0)]}, finish_is_told=1)

    def test_done_stop_and_look(self):
        before = offered(0, 3) + taken(1)
        self.every_order(before, {1: [done(1, 0, 0)], 2: [stop(2, 0)], 3: [look(3, 0)]})

    def test_done_and_take_and_stop(self):
        before = offered(0, 2) + taken(1)
        self.every_order(before, {1: [done(1, 0, 0)], 2: [take(2)], 3: [stop(3, 0)]})

    def test_clears(self):
        before = offered(0, 1) + [stop(0, 0), go(0), go(0)]
        self.every_order(before, {p: [clear(p, 0)] for p in range(4)}, is_cleared=True)

    def test_clears_with_another_offer(self):
        before = offered(0, 1) + [stop(0, 0), go(0), go(0)]
        self.every_order(before, {1: [clear(1, 0), clear(1, 0)], 2: [clear(2, 0), offer(2, 1)]}, is_cleared=True)

    def test_done_look_and_clear(self):
        before = offered(0, 1) + taken(1)
        self.every_order(before, {1: [done(1, 0, 0), clear(1, 0)], 2: [look(2, 0), clear(2, 0)], 3: [clear(3, 0)]})

    def test_take_beside_stop_and_clear(self):
        before = offered(0, 2)
        self.every_order(before, {1: [take(1)], 2: [stop(2, 0), clear(2, 0)], 3: [take(3)]})

    def test_take_beside_clear_and_the_next_offer(self):
        before = offered(0, 1)
        self.every_order(before, {1: [take(1), take(1)], 2: [stop(2, 0), clear(2, 0), offer(2, 1)]})

    def test_a_take_begun_before_the_clear(self):
        before = offered(0, 2) + [take(1), stop(2, 0), go(2), go(2), clear(2, 0), go(2)]
        for after in ([], [offer(3, 2), go(3)], offered(3, 2)[:3], offered(3, 2)):
            told = run(before + after + [go(1), go(1)])
            self.hold(before + after + [go(1), go(1)], told)
            self.assertEqual(told[len(before) - 1], [1, 6, 0])

    def test_a_finishing_begun_before_the_clear(self):
        before = offered(0, 1) + taken(1) + called_done(1, 0, [0]) + [look(2, 0), go(2), clear(2, 0), go(2)]
        again_open = before + offered(3, 1) + taken(3) + called_done(3, 2, [0])
        self.assertEqual(run(again_open + [go(1), go(3)])[-2:], [[1, 3, 0], [1, 3, 1]])

    def test_parties_at_work(self):
        """Parties that call done only what they were given or told, in many orders, some of them gone in the middle."""
        finishes = 0
        clears = 0
        for seed in range(200):
            calls, told = Work(seed).line(400)
            told_once, cleared_once = self.hold(calls, told)
            finishes += len(told_once)
            clears += len(cleared_once)
        self.assertGreater(finishes, 500)
        self.assertGreater(clears, 500)


class Work:
    """Draws a line call by call: what was given or told by the answers decides which dones may be begun."""

    def __init__(self, seed):
        self.chance = random.Random(seed)
        self.tickets = [0]
        self.known = []
        self.begun = {}

    def draw(self, party):
        if party in self.begun:
            return gone(party) if self.chance.random() < 0.03 else go(party)
        t = self.chance.choice(self.tickets[-2:])
        sort = self.chance.random()
        if sort < 0.4 and self.known:
            # Lately known ones first, for older tickets are cleared mostly.
            return done(party, *self.chance.choice(self.known[-4:]))
        return self.chance.choice((offer(party, self.chance.randint(1, 4)), take(party), take(party), take(party),
                                   again(party, t), look(party, t), clear(party, t), clear(party, t), stop(party, t)))

    def note(self, call, answer):
        party = call[1]
        if call[0] < 10:
            self.begun[party] = call
        if answer == [0]:
            return
        begun = self.begun.pop(party)
        if answer[0:3] == [1, 0, 0]:
            self.tickets.append(answer[3])
        if answer[0:3] == [1, 1, 0]:
            self.known.append((answer[3], answer[4]))
        if answer[0:3] == [1, 2, 1]:
            self.known.append((begun[2], answer[3]))

    def line(self, length):
        calls = []
        told = []
        # The whole line is run anew every few calls, for what is drawn next hangs on what was answered.
        while len(calls) < length:
            fresh = [self.draw(party) for party in self.chance.sample(range(4), 4)]
            calls += fresh
            told = run(calls)
            for call, answer in zip(fresh, told[-4:]):
                self.note(call, answer)
        return calls, told


if __name__ == "__main__":
    unittest.main()

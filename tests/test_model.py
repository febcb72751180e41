"""Many lines against a second writing of the document: there a call is a generator that yields at each gap."""

import random
import unittest

from lines import again, board, clear, done, go, gone, key, look, offer, run, sleep, stop, take, wake

MOST = 2 ** 53 - 1


class Pool:
    def __init__(self):
        self.state = [(0, 0), (0, 0)]
        self.giving = [(0, 0, False), (0, 0, False)]
        self.laid = [(0, 0, ()), (0, 0, ())]
        self.words = [[(0, frozenset())] * 4, [(0, frozenset())] * 4]
        self.event = 0

    def limit(self, s):
        return self.giving[s][1] if self.giving[s][2] else self.laid[s][0]

    def given(self, s):
        return self.giving[s][1] if self.giving[s][2] else min(self.giving[s][1], self.laid[s][0])

    def marked(self, s):
        return set().union(*(marks for stamp, marks in self.words[s]))

    def complete(self, s):
        return set(range(self.limit(s))) <= self.marked(s)

    def tell(self):
        row = [3, self.event]
        for s in range(2):
            stamp, given, stopped = self.giving[s]
            row += [*self.state[s], stamp, given, int(stopped), self.laid[s][0], self.laid[s][1]]
            for j, (stamp, marks) in enumerate(self.words[s]):
                row += [stamp] + [int(8 * j + at in marks) for at in range(8)]
        return row


def model_offer(pool, n, kind, *job):
    if not 1 <= n <= 32:
        return [-4]
    gaps = 0
    for s in range(2):
        seen = pool.state[s]
        if seen[1] != 0:
            continue
        gaps += 1
        yield
        if pool.state[s] != seen:
            if gaps == 3:
                return [-2]
            continue
        stamp = seen[0]
        pool.state[s] = (stamp, 1)
        yield
        pool.giving[s] = (stamp, 0, False)
        pool.laid[s] = (n, kind, job)
        pool.words[s] = [(stamp, frozenset())] * 4
        yield
        pool.state[s] = (stamp, 2)
        return [0, 2 * stamp + s]
    return [-1]


def model_take(pool):
    gaps = 0
    s = 0
    while s < 2:
        state, giving, (n, kind, job) = pool.state[s], pool.giving[s], pool.laid[s]
        if state[1] != 2 or giving[0] != state[0] or giving[2] or giving[1] >= n:
            s += 1
            continue
        gaps += 1
        yield
        if pool.giving[s] == giving:
            pool.giving[s] = (giving[0], giving[1] + 1, giving[2])
            return [0, 2 * state[0] + s, giving[1], kind, *job]
        if gaps == 3:
            return [-2]
    return [-1]


def model_again(pool, t):
    stamp, s = divmod(t, 2)
    if pool.state[s] != (stamp, 2):
        return [-1]
    left = [k for k in range(pool.given(s)) if k not in pool.marked(s)]
    return [1, left[0]] if left else [0, 0]
    # Never reached: it makes this one a generator as the others are.
    yield


def model_tries(row, at, rule):
    """Gives back the rule's answer and None, or None and the content that was written."""
    for attempt in range(3):
        seen = row[at]
        answer, content = rule(seen)
        if answer is not None:
            return answer, None
        yield
        if row[at] == seen:
            row[at] = content
            return None, content
    return [-2], None


def model_finishing(pool, t):
    stamp, s = divmod(t, 2)
    if not pool.complete(s):
        return 0
    yield
    if pool.state[s] == (stamp, 2):
        pool.state[s] = (stamp, 4)
        return 1
    return 0


def model_done(pool, t, k):
    stamp, s = divmod(t, 2)
    if k >= 32:
        return [-4]
    if pool.state[s] != (stamp, 2):
        return [-1]
    if k >= pool.laid[s][0]:
        return [-3]

    def rule(seen):
        if seen[0] != stamp:
            return [-1], None
        return ([2], None) if k in seen[1] else (None, (stamp, seen[1] | {k}))

    # The list of words is another one behind a lay, so it is fetched through the pool each time.
    answer, written = yield from model_tries(Row(pool.words, s), k // 8, rule)
    if answer is not None:
        return answer
    return [(yield from model_finishing(pool, t))]


class Row:
    def __init__(self, rows, s):
        self.rows, self.s = rows, s

    def __getitem__(self, at):
        return self.rows[self.s][at]

    def __setitem__(self, at, content):
        self.rows[self.s][at] = content


def model_stop(pool, t):
    stamp, s = divmod(t, 2)
    if pool.state[s] != (stamp, 2):
        return [-1]

    def rule(seen):
        if seen[0] != stamp:
            return [-1], None
        return ([2, seen[1]], None) if seen[2] else (None, (stamp, seen[1], True))

    answer, written = yield from model_tries(pool.giving, s, rule)
    if answer is not None:
        return answer
    return [(yield from model_finishing(pool, t)), written[1]]


def model_look(pool, t):
    stamp, s = divmod(t, 2)
    if pool.state[s] not in ((stamp, 2), (stamp, 4)):
        return [-1]
    number = 1
    if pool.state[s][1] == 2:
        if pool.complete(s):
            yield
            if pool.state[s] == (stamp, 2):
                pool.state[s] = (stamp, 4)
            elif pool.state[s] != (stamp, 4):
                return [-1]
        else:
            number = 0
    return [number, pool.given(s), len(set(range(pool.limit(s))) & pool.marked(s))]


def model_clear(pool, t):
    stamp, s = divmod(t, 2)

    def rule(seen):
        return (None, (stamp + 1, 0)) if seen == (stamp, 4) else ([-1], None)

    answer, written = yield from model_tries(pool.state, s, rule)
    return answer if answer is not None else [0]


def model_key(pool):
    yield
    pool.event += 1 - pool.event % 2
    return [0, pool.event]


def model_sleep(pool, x):
    return [int(pool.event == x)]
    yield


def model_wake(pool):
    for attempt in range(3):
        seen = pool.event
        yield
        if pool.event == seen:
            # Behind a wake the event is even, whatever it was.
            pool.event = 2 * (seen // 2) + 2
            return [seen % 2]
    return [-2]


MODELS = [model_offer, model_take, model_again, model_done, model_stop, model_look, model_clear, model_key, model_sleep,
          model_wake]


class Model:
    def __init__(self):
        self.pool = Pool()
        self.calls = {}

    def answer(self, call):
        place = call[0]
        if place == 12:
            return self.pool.tell()
        party = call[1]
        if party > 3:
            return [-1]
        if (place < 10) == (party in self.calls):
            return [-9]
        if place == 11:
            del self.calls[party]
            return [2]
        if place < 10:
            numbers = call[2:4] + call[5:] if place == 0 else call[2:]
            self.calls[party] = (place, MODELS[place](self.pool, *numbers))
        begun, steps = self.calls[party]
        try:
            next(steps)
        except StopIteration as end:
            del self.calls[party]
            return [1, begun] + end.value
        return [0]


def any_call(chance, slices, tickets, event):
    """A call of party 0 to 4, mostly going on with what is begun."""
    party = chance.choice((0, 0, 0, 1, 1, 1, 2, 2, 2, 3, 3, 3, chance.choice((4, MOST))))
    t = chance.choice(tickets)
    k = chance.choice(slices)
    x = max(0, event - chance.randrange(3))
    job = [chance.choice((0, 1, 9, MOST)) for number in range(chance.randrange(5))]
    return chance.choice((
        offer(party, chance.choice(slices) + 1, chance.choice((0, 8, MOST)), job),
        offer(party, chance.choice((0, 1, 32, 33, MOST))),
        take(party), take(party), take(party), again(party, t), done(party, t, k), done(party, t, k),
        done(party, t, chance.choice((31, 32, k + 1, MOST))), stop(party, t), look(party, t), clear(party, t),
        clear(party, t), chance.choice((again, stop, look, clear))(party, MOST - chance.randrange(2)),
        key(party), sleep(party, x), sleep(party, chance.choice((x, x + 1, MOST))), wake(party), wake(party),
        gone(party), board(),
    ) + (go(party),) * 18)


class ModelTest(unittest.TestCase):
    def follow(self, seed, length, slices, newest):
        chance = random.Random(seed)
        model = Model()
        calls = []
        told = []
        for place in range(length):
            # Tickets near to those on the board, so that most calls find something.
            tickets = [max(0, 2 * stamp + s - 2 * chance.randrange(newest)) for s, (stamp, phase)
                       in enumerate(model.pool.state)]
            calls.append(any_call(chance, slices, tickets, model.pool.event))
            told.append(model.answer(calls[-1]))
        self.assertEqual(run(calls), told, f"seed {seed}")
        return told

    def test_small_jobs(self):
        seen = {}
        for seed in range(400):
            for told in self.follow(seed, 400, (0, 1, 2), 2):
                seen[tuple(told[:3])] = True
        for end in ((0, 0), (0, -1), (0, -4), (1, 0), (1, -1), (1, -2), (2, 0), (2, 1), (2, -1), (3, 0), (3, 1),
                    (3, 2), (3, -1), (3, -3), (3, -4), (4, 0), (4, 1), (4, 2), (4, -1), (5, 0), (5, 1),
                    (5, -1), (6, 0), (6, -1), (7, 0), (8, 0), (8, 1), (9, 0), (9, 1), (9, -2)):
            self.assertIn((1,) + end, seen)

    def test_large_jobs(self):
        for seed in range(150):
            self.follow(seed, 400, tuple(range(32)), 1)

    def test_the_longest_lists(self):
        """Nine numbers are the most that a call has: 400 offers with whole jobs make a list of 3600."""
        for seed in range(60):
            chance = random.Random(seed)
            model = Model()
            calls = [offer(chance.randrange(5), chance.choice((0, 1, 32, 33)), MOST, [MOST - at for at in range(4)])
                     for place in range(400)]
            self.assertEqual(sum(len(call) for call in calls), 3600)
            self.assertEqual(run(calls), [model.answer(call) for call in calls], f"seed {seed}")

    def test_events(self):
        """Only the calls on the event, so that many wakes stand at their gaps together."""
        seen = {}
        for seed in range(200):
            chance = random.Random(seed)
            model = Model()
            calls = []
            told = []
            for place in range(400):
                party = chance.randrange(4)
                calls.append(chance.choice((key(party), wake(party), wake(party), gone(party), board(),
                                            sleep(party, model.pool.event - chance.randrange(-1, 1)))
                                           + (go(party),) * 6))
                told.append(model.answer(calls[-1]))
                seen[tuple(told[-1][:3])] = True
            self.assertEqual(run(calls), told, f"seed {seed}")
        for end in ((7, 0), (8, 0), (8, 1), (9, 0), (9, 1), (9, -2)):
            self.assertIn((1,) + end, seen)

    def test_short_lines(self):
        for seed in range(600):
            self.follow(seed, 1 + seed % 40, (0, 1), 1)


if __name__ == "__main__":
    unittest.main()

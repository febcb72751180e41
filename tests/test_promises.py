"""The points 1 to 9, over every order of steps of small scenes and over many long lines.

The Watcher knows nothing of how the program does its work: it reads the calls, what they answered, and the board where
it was told, and says which point is broken.
"""

import random
import unittest

from lines import GAP, SCENES, again, beginnings, board, called_done, clear, cleared, done, finished, go, gone, gos, key
from lines import keyed, look, offer, offered, run, sleep, stop, take, taken, used_up, wake, woken

OFFER, TAKE, AGAIN, DONE, STOP, LOOK, CLEAR, KEY, SLEEP, WAKE, GO, GONE, BOARD = range(13)


class Broken(Exception):
    """Its first value is the number of the point that is broken."""


def slots_of(told):
    """The two slots of a told board: state, next, how many slices, kind, the words' stamps, the marked slices."""
    slots = []
    for at in (2, 45):
        row = told[at:at + 43]
        marks = [8 * j + place for j in range(4) for place in range(8) if row[8 + 9 * j + place]]
        slots.append((tuple(row[0:2]), tuple(row[2:5]), row[5], row[6], [row[7 + 9 * j] for j in range(4)], marks))
    return slots


class Watcher:
    """Goes through a line; fair says that each done in it is begun of what was given or told."""

    def __init__(self, fair=True):
        self.fair = fair
        self.begun = {}
        self.gaps = {}
        self.disturbed = {}
        self.offers = {}
        self.given = {}
        self.called = {}
        self.stops = {}
        self.finished = {}
        self.told_finished = {}
        self.cleared = {}
        self.keys = {}
        self.woken = {}
        self.board = None
        self.ends = 0

    def need(self, point, holds, *why):
        if not holds:
            raise Broken(point, *why)

    def follow(self, calls, told):
        for call, answer in zip(calls, told):
            if call[0] == BOARD:
                self.see_board(answer)
            elif answer[0] == 2:
                self.begun.pop(call[1])
            elif answer[0] >= 0:
                self.see_step(call, answer)
        return self

    def see_step(self, call, answer):
        party = call[1]
        for other in self.begun:
            # One more gap of the other's in which somebody acted, if nobody had yet.
            if other != party:
                self.disturbed[other][-1] = True
        if call[0] < GO:
            self.begun[party] = call
            self.gaps[party] = 0
            self.disturbed[party] = []
            if call[0] == DONE:
                self.called.setdefault(call[2], {})[call[3]] = True
        if answer == GAP:
            self.gaps[party] += 1
            self.disturbed[party].append(False)
            self.need(9, self.gaps[party] <= 10, "more than ten gaps", call)
            return
        begun = self.begun.pop(party)
        self.ends += 1
        self.need(9, answer[1] == begun[0], "the end of another call", begun, answer)
        self.need(9, answer[2] != -2 or sum(self.disturbed[party]) >= 3, "-2 of a call that was not disturbed", begun)
        self.see_end(begun, answer[1], answer[2], answer[3:])

    def see_end(self, begun, place, number, rest):
        if place == KEY:
            self.need(7, number == 0 and rest[0] not in self.woken, "a key told again behind its wake", rest)
            self.keys[rest[0]] = True
        if place == WAKE and number >= 0:
            self.woken.update(self.keys)
            self.keys = {}
        if place == SLEEP and begun[2] in self.keys:
            self.need(7, number == 1, "a key without a wake behind it does not sleep on", begun)
        if place == SLEEP and begun[2] in self.woken:
            self.need(7, number == 0, "a key with a wake behind it sleeps on", begun)
        if self.fair:
            self.see_fair_end(begun, place, number, rest)

    def see_fair_end(self, begun, place, number, rest):
        if place == OFFER and number == 0:
            self.need(2, rest[0] not in self.offers, "two offers have one ticket", rest[0])
            self.offers[rest[0]] = (begun[2], begun[3], begun[5:])
            self.given[rest[0]] = []
        if place == TAKE and number == 0:
            self.see_take(rest[0], rest[1], rest[2], rest[3:])
        if place == AGAIN:
            self.see_again(begun[2], number, rest)
        if place == STOP and number >= 0:
            self.see_stop(begun[2], rest[0])
        if place in (DONE, STOP, LOOK) and number == 1:
            self.see_finish(begun[2], place)
        if place == LOOK and number >= 0:
            self.need(3, rest[0] == len(self.given[begun[2]]), "look tells another number of given slices", begun)
        if place == CLEAR and number == 0:
            self.need(4, begun[2] not in self.cleared, "cleared twice", begun)
            self.need(4, begun[2] in self.finished, "cleared without a finish", begun)
            self.cleared[begun[2]] = True

    def see_take(self, t, k, kind, job):
        self.need(1, t in self.offers, "given of a ticket that nobody has", t)
        self.need(4, t not in self.cleared, "given out behind the clear", t, k)
        self.need(5, t not in self.stops, "given out behind the stop", t, k)
        self.need(3, t not in self.finished, "given out behind the finish", t, k)
        self.need(1, k not in self.given[t], "given out twice", t, k)
        self.need(1, k == len(self.given[t]) and k < self.offers[t][0], "another slice than the next", t, k)
        self.need(1, (kind, job) == self.offers[t][1:], "another kind or job than was offered", t, kind, job)
        self.given[t].append(k)

    def see_again(self, t, number, rest):
        if number == 1:
            self.need(6, rest[0] in self.given[t], "again tells what was not given", t, rest)
        if self.board is None:
            return
        state, giving, slices, kind, stamps, marks = self.board[t % 2]
        left = [k for k in self.given.get(t, []) if k not in marks]
        if state != (t // 2, 2):
            self.need(6, number == -1, "again finds what is not open", t)
        else:
            self.need(6, [number] + rest == ([1, left[0]] if left else [0, 0]), "again tells another slice", t, left)

    def see_stop(self, t, k):
        self.need(5, self.stops.get(t, k) == k, "stopped at two numbers", t, k)
        self.need(5, len(self.given[t]) == k, "stopped at another number than was given", t, k)
        self.stops[t] = k

    def see_finish(self, t, place):
        for k in self.given[t]:
            self.need(3, k in self.called.get(t, {}), "finished and not done", t, k)
        if t not in self.stops and not self.may_be_stopped(t):
            self.need(3, len(self.given[t]) == self.offers[t][0], "finished and not all given out", t)
        self.need(4, place == LOOK or t not in self.told_finished, "the finish told twice", t)
        self.need(4, t not in self.cleared, "the finish told behind the clear", t)
        self.finished[t] = True
        if place != LOOK:
            self.told_finished[t] = True

    def may_be_stopped(self, t):
        """A stop that is at its finishing, or gone there, has stopped the ticket and not told so."""
        return self.board is None or self.board[t % 2][1][2] == 1

    def see_board(self, told):
        self.need(8, len(told) == 88 and told[0] == 3, "a board of another length")
        event = told[1]
        for x in self.keys:
            self.need(7, x == event, "the event is not what a key without a wake told", x, event)
        slots = slots_of(told)
        for number, slot in enumerate(slots):
            self.see_slot(*slot)
            if self.board is not None:
                self.see_change(number, self.board[number], slot)
        self.board = slots

    def see_slot(self, state, giving, slices, kind, stamps, marks):
        self.need(8, state[1] in (0, 1, 2, 4), "no such phase", state)
        self.need(8, giving[2] in (0, 1) and 0 <= giving[1] <= slices <= 32, "numbers out of joint", giving, slices)
        self.need(8, stamps == [giving[0]] * 4, "the words and the next have not one stamp", giving, stamps)
        fit = {0: (max(0, state[0] - 1),), 1: (max(0, state[0] - 1), state[0])}.get(state[1], (state[0],))
        self.need(8, giving[0] in fit, "the next's stamp does not go with the state's", state, giving)
        self.need(8, all(k < slices for k in marks), "marks behind the last slice", slices, marks)
        if state[1] in (2, 4):
            self.need(8, slices > 0, "an open slot without slices")
        if state[1] == 4:
            limit = giving[1] if giving[2] else slices
            self.need(8, all(k in marks for k in range(limit)), "finished and not complete", state, giving, marks)
            if self.fair:
                self.need(3, limit == giving[1], "finished and neither all given out nor stopped", state, giving)

    def see_change(self, number, old, new):
        """What may become of a slot from one board to a later one, as long as its stamps stay."""
        self.need(8, new[0][0] >= old[0][0] and new[1][0] >= old[1][0], "a stamp went back", old, new)
        if new[0][0] == old[0][0]:
            self.need(8, new[0][1] >= old[0][1], "a phase went back", old, new)
        if new[1][0] == old[1][0] and old[0][1] in (2, 4):
            self.need(8, new[2:4] == old[2:4], "the number or the kind changed under an open ticket", old, new)
            self.need(8, new[1][1] >= old[1][1] and new[1][2] >= old[1][2], "the next went back", old, new)
            self.need(5, old[1] == new[1] or not old[1][2], "given out behind the stop", old, new)
            self.need(8, all(k in new[5] for k in old[5]), "a mark was lost", old, new)
        t = 2 * new[1][0] + number
        if self.fair and new[0] in ((new[1][0], 2), (new[1][0], 4)) and t in self.given:
            self.need(1, new[1][1] == len(self.given[t]), "given out and told to nobody, or told and not given out", t)


def with_boards(calls):
    return [part for call in calls for part in (call, board())]


def orders(before, scripts, leavers=()):
    """Every order in which the parties can go through their scripts, each call to its end: (calls, answers).

    A party of leavers may be gone at any gap; what it had yet to begin it doesn't begin then.
    """
    waiting = [before]
    while waiting:
        calls = waiting.pop()
        told = run(calls)
        at_gap, left = standing(calls[len(before):], told[len(before):], scripts)
        if not at_gap and not any(left.values()):
            yield calls, told
        for party in scripts:
            if party in at_gap:
                waiting.append(calls + [go(party)])
                if party in leavers:
                    waiting.append(calls + [gone(party)])
            elif left[party]:
                waiting.append(calls + [left[party][0]])


def standing(calls, told, scripts):
    at_gap = {}
    left = {party: list(script) for party, script in scripts.items()}
    for call, answer in zip(calls, told):
        party = call[1]
        if call[0] < GO:
            left[party].pop(0)
        if call[0] == GONE:
            left[party] = []
        at_gap.pop(party, None)
        if answer == GAP:
            at_gap[party] = True
    return at_gap, left


class Work:
    """Draws a line call by call: what was given or told by the answers decides which dones may be begun."""

    def __init__(self, seed, slices=4, gone_at=0.03):
        self.chance = random.Random(seed)
        self.slices = slices
        self.gone_at = gone_at
        self.tickets = [0]
        self.known = []
        self.keys = [0]
        self.begun = {}

    def draw(self, party):
        if party in self.begun:
            return gone(party) if self.chance.random() < self.gone_at else go(party)
        t = self.chance.choice(self.tickets[-2:])
        sort = self.chance.random()
        if sort < 0.35 and self.known:
            # Lately known ones first, for older tickets are cleared mostly.
            return done(party, *self.chance.choice(self.known[-4:]))
        if sort < 0.5:
            return self.chance.choice((key(party), wake(party), sleep(party, self.chance.choice(self.keys[-2:]))))
        job = [self.chance.randrange(5) for number in range(self.chance.randrange(5))]
        return self.chance.choice((
            offer(party, self.chance.randint(1, self.slices), self.chance.randrange(5), job),
            take(party), take(party), take(party), again(party, t), look(party, t), clear(party, t), clear(party, t),
            stop(party, t)))

    def note(self, call, answer):
        party = call[1]
        if call[0] < GO:
            self.begun[party] = call
        if answer == GAP:
            return
        begun = self.begun.pop(party)
        if answer[0:3] == [1, OFFER, 0]:
            self.tickets.append(answer[3])
        if answer[0:3] == [1, TAKE, 0]:
            self.known.append((answer[3], answer[4]))
        if answer[0:3] == [1, AGAIN, 1]:
            self.known.append((begun[2], answer[3]))
        if answer[0:3] == [1, KEY, 0]:
            self.keys.append(answer[3])

    def line(self, length):
        calls = []
        told = []
        # The whole line is run anew every few calls, for what is drawn next hangs on what was answered.
        while len(calls) < length:
            fresh = [self.draw(party) for party in self.chance.sample(range(4), 4)]
            calls += fresh
            told = run(calls)
            for call, answer in zip(fresh, told[-4:]):
                self.note(call, answer)
        return calls, told


def wild_line(seed, length):
    """Whatever calls in whatever order, with dones of what nobody was given."""
    chance = random.Random(seed)
    calls = []
    for place in range(length):
        party = chance.randrange(4)
        t = chance.randrange(4)
        k = chance.randrange(4)
        calls.append(chance.choice((offer(party, k + 1), take(party), take(party), again(party, t), done(party, t, k),
                                    done(party, t, k), done(party, t, k), stop(party, t), look(party, t),
                                    clear(party, t), clear(party, t), key(party), sleep(party, k), wake(party),
                                    gone(party)) + (go(party),) * 14))
    return calls


class SceneTest(unittest.TestCase):
    """Small scenes, in every order of their steps."""

    def every_order(self, before, scripts, leavers=(), finish_is_told=None, is_cleared=None):
        count = 0
        for calls, told in orders(before, scripts, leavers):
            watched = with_boards(calls)
            seen = Watcher().follow(watched, run(watched))
            if finish_is_told is not None:
                self.assertEqual(0 in seen.told_finished, finish_is_told, calls)
            if is_cleared is not None:
                self.assertEqual(0 in seen.cleared, is_cleared, calls)
            count += 1
        self.assertGreater(count, 1)

    def test_two_last_dones(self):
        before = offered(0, 2) + taken(1) + taken(2)
        self.every_order(before, {1: [done(1, 0, 0)], 2: [done(2, 0, 1)]}, finish_is_told=True)

    def test_three_last_dones(self):
        before = offered(0, 3) + taken(1) + taken(2) + taken(3)
        self.every_order(before, {p: [done(p, 0, p - 1)] for p in (1, 2, 3)}, finish_is_told=True)

    def test_dones_of_one_slice(self):
        before = offered(0, 1) + taken(1)
        self.every_order(before, {p: [done(p, 0, 0)] for p in (1, 2, 3)}, finish_is_told=True)

    def test_stops(self):
        before = offered(0, 3) + taken(1) + called_done(1, 0, [0])
        self.every_order(before, {p: [stop(p, 0)] for p in (1, 2, 3)}, finish_is_told=True)

    def test_done_and_stop(self):
        before = offered(0, 3) + taken(1, 2)
        self.every_order(before, {1: [done(1, 0, 0)], 2: [done(2, 0, 1)], 3: [stop(3, 0)]}, finish_is_told=True)

    def test_done_stop_and_look(self):
        before = offered(0, 3) + taken(1)
        self.every_order(before, {1: [done(1, 0, 0)], 2: [stop(2, 0)], 3: [look(3, 0)]}, (1, 2, 3))

    def test_done_and_take_and_stop(self):
        before = offered(0, 2) + taken(1)
        self.every_order(before, {1: [done(1, 0, 0)], 2: [take(2)], 3: [stop(3, 0)]}, (1, 2, 3))

    def test_clears(self):
        before = offered(0, 1) + [stop(0, 0), go(0), go(0)]
        self.every_order(before, {p: [clear(p, 0)] for p in range(4)}, is_cleared=True)

    def test_clears_with_another_offer(self):
        before = offered(0, 1) + [stop(0, 0), go(0), go(0)]
        scripts = {1: [clear(1, 0), clear(1, 0)], 2: [clear(2, 0), offer(2, 1)]}
        self.every_order(before, scripts, is_cleared=True)
        self.every_order(before, scripts, (1, 2))

    def test_done_look_and_clear(self):
        before = offered(0, 1) + taken(1)
        self.every_order(before, {1: [done(1, 0, 0), clear(1, 0)], 2: [look(2, 0), clear(2, 0)], 3: [clear(3, 0)]})

    def test_take_beside_stop_and_clear(self):
        before = offered(0, 2)
        self.every_order(before, {1: [take(1)], 2: [stop(2, 0), clear(2, 0)], 3: [take(3)]})

    def test_take_beside_clear_and_the_next_offer(self):
        before = offered(0, 1)
        self.every_order(before, {1: [take(1), take(1)], 2: [stop(2, 0), clear(2, 0), offer(2, 1, 3, [4])]})

    def test_offers(self):
        self.every_order([], {1: [offer(1, 1, 1, [1])], 2: [offer(2, 2, 2, [2])]}, (1, 2))
        self.every_order([], {1: [offer(1, 1, 1, [1])], 2: [offer(2, 2, 2, [2])], 3: [offer(3, 3)]})

    def test_offer_beside_takes(self):
        self.every_order([], {1: [offer(1, 2, 5, [6, 7])], 2: [take(2), take(2)], 3: [take(3)]}, (1,))

    def test_takes(self):
        self.every_order(offered(0, 2, 4, [5]), {p: [take(p)] for p in (1, 2, 3)}, (1,))
        self.every_order(offered(0, 1, 4) + offered(0, 1, 6), {1: [take(1), take(1)], 2: [take(2)], 3: [take(3)]})

    def test_again_beside_take_and_done(self):
        before = offered(0, 2) + taken(1)
        self.every_order(before, {1: [done(1, 0, 0)], 2: [take(2)], 3: [again(3, 0), again(3, 0)]}, (1, 2))

    def test_keys_and_wakes(self):
        self.every_order([], {1: [key(1), sleep(1, 1)], 2: [wake(2), sleep(2, 1)], 3: [wake(3)]}, (1, 2))
        self.every_order(keyed(0), {0: [sleep(0, 1)], 1: [key(1), sleep(1, 3)], 2: [wake(2), key(2)]}, (1, 2))


class PointTest(unittest.TestCase):
    """Each point by itself, at the places where it is most easily broken."""

    def watch(self, calls, fair=True):
        return Watcher(fair).follow(with_boards(calls), run(with_boards(calls)))

    def test_1_a_take_that_is_gone_has_not_taken(self):
        calls = offered(0, 2) + [take(1), gone(1), take(1), take(2), go(2), gone(1)] + taken(3) + [take(3)]
        self.assertEqual(self.watch(calls).given, {0: [0, 1]})

    def test_1_a_job_is_given_as_it_was_offered_in_a_slot_used_before(self):
        calls = used_up(0, 0) + offered(1, 2, 8, [1, 2, 3, 4]) + taken(2) + offered(3, 1, 9) + taken(0, 2)
        self.assertEqual(self.watch(calls).given, {0: [0], 2: [0, 1], 1: [0]})

    def test_2_tickets_of_a_slot_used_many_times(self):
        calls = [call for stamp in range(9) for call in used_up(stamp % 4, 2 * stamp)]
        self.assertEqual(sorted(self.watch(calls).offers), [2 * stamp for stamp in range(9)])

    def test_2_an_offer_that_is_gone_leaves_no_ticket_to_another(self):
        for steps in range(3):
            calls = [offer(0, 1)] + gos(0, steps) + [gone(0)] + offered(1, 1) + offered(2, 1) + taken(3, 2)
            self.assertEqual(len(self.watch(calls).offers), 2 if steps == 0 else 1)

    def test_3_not_finished_before_all_is_given_and_done(self):
        calls = offered(0, 2) + taken(1) + called_done(1, 0, [0]) + [look(2, 0)]
        self.assertEqual(run(calls)[-1], [1, 5, 0, 1, 1])
        self.assertEqual(self.watch(calls + taken(2) + finished(2, 0, [1]) + [look(3, 0)]).finished, {0: True})

    def test_3_a_stopped_one_is_finished_when_all_that_was_given_is_done(self):
        calls = offered(0, 9) + taken(1, 2) + [stop(0, 0), go(0), look(0, 0)] + called_done(1, 0, [1])
        self.assertEqual(run(calls + [look(3, 0)])[-1], [1, 5, 0, 2, 1])
        self.assertEqual(run(calls + finished(1, 0, [0]))[-1], [1, 3, 1])
        self.assertEqual(self.watch(calls + finished(1, 0, [0]) + [look(3, 0)]).finished, {0: True})

    def test_4_a_take_begun_before_the_clear(self):
        before = offered(0, 2) + [take(1), stop(2, 0), go(2), go(2), clear(2, 0), go(2)]
        for after in ([], [offer(3, 2), go(3)], offered(3, 2)[:3], offered(3, 2)):
            self.assertEqual(self.watch(before + after + [go(1), go(1)]).cleared, {0: True})

    def test_4_a_finishing_begun_before_the_clear(self):
        before = offered(0, 1) + taken(1) + called_done(1, 0, [0]) + [look(2, 0), go(2), clear(2, 0), go(2)]
        again_open = before + offered(3, 1) + taken(3) + called_done(3, 2, [0])
        self.assertEqual(run(again_open + [go(1), go(3)])[-2:], [[1, 3, 0], [1, 3, 1]])
        self.watch(again_open + [go(1), go(3)])

    def test_5_takes_at_their_gaps_while_it_is_stopped(self):
        before = offered(0, 9) + taken(0, 3) + [take(1), take(2), stop(3, 0), go(3), go(1), go(2), take(0)]
        self.assertEqual(run(before)[-3:], [[1, 1, -1]] * 3)
        self.assertEqual(self.watch(before + [stop(0, 0)]).stops, {0: 3})

    def test_5_stopped_by_one_that_is_gone(self):
        calls = offered(0, 9) + taken(0, 3) + called_done(0, 0, [0, 1, 2]) + [stop(1, 0), go(1), gone(1), take(2)]
        self.assertEqual(run(calls + [stop(2, 0)])[-2:], [[1, 1, -1], [1, 4, 2, 3]])
        self.watch(calls + [stop(2, 0)])

    def test_6_what_was_given_to_those_who_are_gone(self):
        calls = offered(0, 32) + taken(1, 32) + called_done(2, 0, [0, 3, 31])
        left = [k for k in range(32) if k not in (0, 3, 31)]
        for k in left:
            self.assertEqual(run(calls + [again(3, 0)])[-1], [1, 2, 1, k])
            calls += [done(3, 0, k), go(3)]
        self.assertEqual(run(calls + [again(1, 0)])[-1], [1, 2, 0, 0])

    def test_6_of_a_stopped_ticket(self):
        calls = offered(0, 9) + taken(1, 3) + [stop(2, 0), go(2)] + called_done(1, 0, [0])
        self.assertEqual(run(calls + [again(3, 0)])[-1], [1, 2, 1, 1])
        self.watch(calls + [again(3, 0)])

    def test_7_a_key_sleeps_on_until_a_wake_is_behind_it(self):
        quiet = [sleep(0, 1), sleep(1, 1), key(2), go(2), wake(3), gone(3), key(3), gone(3), sleep(2, 1)]
        told = run(keyed(0) + quiet + woken(1) + [sleep(0, 1)])
        self.assertEqual([told[place] for place in (2, 3, 10, 13)], [[1, 8, 1]] * 3 + [[1, 8, 0]])
        self.watch(keyed(0) + quiet + woken(1) + [sleep(0, 1)], fair=False)

    def test_8_dones_of_what_nobody_was_given(self):
        """The board keeps in joint even there, though the points 1 to 6 are not promised."""
        calls = offered(0, 2) + [take(1)] + called_done(2, 0, [0]) + finished(2, 0, [1]) + cleared(2, 0)
        calls += [offer(3, 1), go(3), go(1), go(3), go(3)] + taken(1)
        self.watch(calls, fair=False)

    def test_8_a_done_and_a_take_that_go_on_behind_the_clear(self):
        """Their slot is laid anew in their gap; and then it's stopped, so that it would be out of joint if they wrote."""
        before = offered(0, 2) + taken(1, 2) + called_done(2, 0, [1]) + [done(1, 0, 0)] + finished(2, 0, [0])
        calls = before + cleared(2, 0) + offered(3, 2) + [go(1), go(1)]
        self.assertEqual(run(calls)[-2:], [[1, 3, -1], [-9]])
        self.watch(calls)
        calls = offered(0, 1) + [take(1)] + taken(2) + finished(2, 0, [0]) + cleared(2, 0) + offered(3, 1)
        calls += [stop(3, 2), go(3), go(1)]
        self.assertEqual(run(calls)[-1], [1, 1, -1])
        self.watch(calls)

    def test_8_over_wild_lines(self):
        ends = 0
        for seed in range(300):
            ends += self.watch(wild_line(seed, 200), fair=False).ends
        self.assertGreater(ends, 10000)

    def test_9_whoever_is_left_alone_comes_to_an_end(self):
        for seed in range(150):
            calls = wild_line(seed, 300) + [go(party) for party in range(4) for step in range(11)]
            told = run(calls)
            for party in range(4):
                # Eleven times told to go on: at the last of them it is in no call any more.
                self.assertEqual(told[300 + 11 * party + 10], [-9])
            Watcher(fair=False).follow(calls, told)

    def test_9_undisturbed_no_call_answers_minus_two(self):
        for seed in range(150):
            before = wild_line(seed, 60) + [gone(2)]
            for call in beginnings(2) + [done(2, 2, 1), stop(2, 1), look(2, 1), clear(2, 2), again(2, 1)]:
                told = run(before + [call] + gos(2, 10))[len(before):]
                ends = [answer for answer in told if answer[0] == 1]
                self.assertEqual(len(ends), 1)
                self.assertNotEqual(ends[0][2], -2)

    def test_9_disturbed_in_every_gap(self):
        for before, call, in_gaps in (
                (offered(0, 32), take(2), [taken(1)] * 12),
                (offered(0, 32), stop(2, 0), [taken(1)] * 12),
                (offered(0, 8) + taken(1, 8), done(2, 0, 0), [called_done(1, 0, [k]) for k in range(1, 8)]),
                ([], wake(2), [woken(1), keyed(1)] * 6)):
            calls = before + [call]
            for others in in_gaps:
                calls = calls + others + [go(2)]
            told = run(calls)
            ends = [place for place, answer in enumerate(told) if answer[0:3] == [1, call[0], -2]]
            self.assertEqual(len(ends), 1, call)
            # The call and three times going on: from then on it is in no call.
            self.assertEqual(calls[len(before):ends[0] + 1].count(go(2)), 3)
            self.watch(calls)

    def test_9_each_way_through_a_call(self):
        for before, call, in_gaps, end in SCENES.values():
            calls = before + [call]
            for others in in_gaps:
                calls = calls + others + [go(2)]
            told = run(calls)
            self.assertEqual(told[-1], end)
            Watcher().follow(calls, told)


class MainTest(unittest.TestCase):
    """All parties, whatever they do in whatever order, some of them gone in the middle."""

    def test_lines_of_400(self):
        finishes = 0
        clears = 0
        for seed in range(150):
            seen = Watcher().follow(*Work(seed).line(400))
            finishes += len(seen.told_finished)
            clears += len(seen.cleared)
        self.assertGreater(finishes, 300)
        self.assertGreater(clears, 300)

    def test_with_the_board_behind_each_call(self):
        stops = 0
        for seed in range(150):
            calls = with_boards(Work(seed, 3).line(200)[0])
            stops += len(Watcher().follow(calls, run(calls)).stops)
        self.assertGreater(stops, 100)

    def test_with_many_gone(self):
        for seed in range(60):
            calls = with_boards(Work(seed, 2, 0.2).line(200)[0])
            Watcher().follow(calls, run(calls))

    def test_large_jobs(self):
        for seed in range(60):
            calls = with_boards(Work(seed, 32).line(200)[0])
            Watcher().follow(calls, run(calls))


class WatcherTest(unittest.TestCase):
    """The Watcher sees each point where it is broken: answers that the program does not give."""

    def broken(self, point, rows, fair=True):
        with self.assertRaises(Broken) as seen:
            Watcher(fair).follow([call for call, answer in rows], [answer for call, answer in rows])
        self.assertEqual(seen.exception.args[0], point, seen.exception.args)

    def rows(self, calls):
        return list(zip(calls, run(calls)))

    def test_1(self):
        before = self.rows(offered(0, 2, 7, [5]) + taken(1))
        for answer in ([1, 1, 0, 0, 0, 7, 5], [1, 1, 0, 0, 2, 7, 5], [1, 1, 0, 0, 1, 8, 5], [1, 1, 0, 0, 1, 7],
                       [1, 1, 0, 0, 1, 7, 5, 0], [1, 1, 0, 2, 0, 7, 5]):
            self.broken(1, before + [(take(2), GAP), (go(2), answer)])

    def test_2(self):
        self.broken(2, self.rows(offered(0, 1)) + [(offer(1, 1), GAP), (go(1), [1, 0, 0, 0])])

    def test_3(self):
        before = self.rows(offered(0, 2) + taken(1))
        self.broken(3, before + [(look(2, 0), [1, 5, 1, 1, 1])])
        self.broken(3, before + [(stop(2, 0), GAP), (go(2), [1, 4, 1, 1])])
        self.broken(3, before + [(board(), run(offered(0, 2) + taken(1) + [board()])[-1]),
                                 (done(2, 0, 0), GAP), (go(2), [1, 3, 1])])

    def test_4(self):
        before = self.rows(offered(0, 1) + taken(1) + finished(1, 0, [0]))
        self.broken(4, before + [(done(2, 0, 0), [1, 3, 1])])
        self.broken(4, before + [(stop(2, 0), [1, 4, 1, 1])])
        cleared_once = before + [(clear(1, 0), GAP), (go(1), [1, 6, 0])]
        self.broken(4, cleared_once + [(clear(2, 0), GAP), (go(2), [1, 6, 0])])
        self.broken(4, cleared_once + [(take(2), GAP), (go(2), [1, 1, 0, 0, 1, 0])])

    def test_5(self):
        before = self.rows(offered(0, 9) + taken(1, 2) + [stop(2, 0), go(2)])
        self.broken(5, before + [(take(1), GAP), (go(1), [1, 1, 0, 0, 2, 0])])
        self.broken(5, before + [(stop(1, 0), [1, 4, 2, 3])])

    def test_6(self):
        before = self.rows(offered(0, 9) + taken(1, 2) + [board()])
        for answer in ([1, 2, 0, 0], [1, 2, 1, 1], [1, 2, 1, 2], [1, 2, -1]):
            self.broken(6, before + [(again(3, 0), answer)])

    def test_7(self):
        self.broken(7, self.rows(keyed(0)) + [(sleep(1, 1), [1, 8, 0])], fair=False)
        self.broken(7, self.rows(keyed(0) + woken(1)) + [(sleep(1, 1), [1, 8, 1])], fair=False)
        self.broken(7, self.rows(keyed(0)) + [(board(), run(woken(0) + [board()])[-1])], fair=False)

    def test_8(self):
        told = run(offered(0, 9) + taken(1, 3) + called_done(1, 0, [0, 1]) + [board()])[-1]
        # Places within the board: phase, next's stamp, given, stopped, slices, a word's stamp, a mark behind the last.
        for place, number in ((3, 3), (3, 4), (3, 0), (4, 1), (5, 10), (6, 2), (7, 0), (7, 33), (18, 1), (9, 1),
                              (20, 1)):
            wrong = told[:place] + [number] + told[place + 1:]
            before = self.rows(offered(0, 9) + taken(1, 3) + called_done(1, 0, [0, 1]) + [board()])
            self.broken(8, before + [(board(), wrong)], fair=False)
        for place in (10, 11):
            self.broken(8, before + [(board(), told[:place] + [0] + told[place + 1:])], fair=False)

    def test_9(self):
        self.broken(9, [(take(0), GAP)] + [(go(0), GAP)] * 10)
        self.broken(9, [(wake(0), GAP), (go(0), GAP), (go(0), GAP), (go(0), [1, 9, -2])])
        two = [(wake(0), GAP)] + [(sleep(1, 9), [1, 8, 0]), (go(0), GAP)] * 2 + [(go(0), [1, 9, -2])]
        self.broken(9, two)
        self.broken(9, [(wake(0), GAP), (go(0), [1, 7, 0])])


if __name__ == "__main__":
    unittest.main()

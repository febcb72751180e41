"""gone: in each call at each of its gaps; what was begun never goes on, and the party may begin another call."""

import unittest

from lines import GAP, LineTest, again, beginnings, board, clear, done, gaps_of_scenes, go, gone, gos, key, look, offer
from lines import offered, run, sleep, stop, take, taken, wake


class GoneTest(LineTest):
    def test_answers_two_and_the_party_is_in_no_call(self):
        for name, before in gaps_of_scenes():
            with self.subTest(name):
                self.check(before, [(gone(2), [2]), (go(2), [-9]), (gone(2), [-9]), (sleep(2, 99), [1, 8, 0])])

    def test_the_board_stays(self):
        for name, before in gaps_of_scenes():
            with self.subTest(name):
                told = run(before + [board(), gone(2), board()])
                self.assertEqual(told[-1], told[-3])

    def test_the_call_never_goes_on(self):
        """What others do behind it is answered as if the party stood at its gap for ever."""
        for name, before in gaps_of_scenes():
            others = [call for begun in beginnings(3) for call in [begun] + gos(3, 3) + [board()]]
            with self.subTest(name):
                self.assertEqual(run(before + [gone(2)] + others)[-len(others):], run(before + others)[-len(others):])

    def test_the_party_begins_another_call(self):
        """Each call begun by the one that was gone is answered as if another had begun it."""
        for name, before in gaps_of_scenes():
            for mine, others in zip(beginnings(2), beginnings(3)):
                after = [mine, board(), go(2), board(), go(2), board(), go(2), board(), go(2)]
                beside = [others, board(), go(3), board(), go(3), board(), go(3), board(), go(3)]
                with self.subTest(name, call=mine):
                    self.assertEqual(run(before + [gone(2)] + after)[-9:], run(before + beside)[-9:])
                    self.assertIn(run(before + [gone(2)] + after)[-9][0], (0, 1))

    def test_gone_again_and_again(self):
        calls = []
        for call in (offer(2, 2), key(2), wake(2), offer(2, 2)):
            calls += [call, gone(2)]
        self.check(calls, [(board(), [3] + [0] * 87)])
        self.check(calls, [(offer(2, 2), GAP), (go(2), GAP), (go(2), GAP), (go(2), [1, 0, 0, 0])])

    def test_the_fails_are_gone_too(self):
        before = offered(0, 9) + [take(2)] + taken(1) + [go(2)] + taken(1) + [go(2), gone(2), take(2)]
        self.check(before + taken(1), [(go(2), GAP), (go(2), [1, 1, 0, 0, 3, 0])])

    def test_only_the_party_that_is_told_is_gone(self):
        self.check([key(0), wake(1), key(2), wake(3)], [
            (gone(1), [2]), (go(0), [1, 7, 0, 1]), (gone(0), [-9]), (go(1), [-9]), (go(2), [1, 7, 0, 1]), (go(3), GAP),
        ])

    def test_a_party_in_none(self):
        self.check([], [(gone(p), [-9]) for p in range(4)])
        self.check(offered(0, 1), [(gone(0), [-9])])

    def test_a_party_above_three(self):
        before = [key(0), key(1), key(2), key(3)]
        self.check(before, [(gone(4), [-1]), (gone(2 ** 53 - 1), [-1]), (go(3), [1, 7, 0, 1])])

    def test_a_slot_being_laid_stays_so(self):
        for steps in (1, 2):
            before = [offer(2, 3)] + gos(2, steps) + [gone(2)]
            self.assertEqual(self.slot(before, 0)["state"], [0, 1])
            self.check(before, [
                (take(0), [1, 1, -1]), (again(0, 0), [1, 2, -1]), (done(0, 0, 0), [1, 3, -1]), (stop(0, 0), [1, 4, -1]),
                (look(0, 0), [1, 5, -1]), (clear(0, 0), [1, 6, -1]), (offer(0, 1), GAP), (go(0), GAP), (go(0), GAP),
                (go(0), [1, 0, 0, 1]), (offer(0, 1), [1, 0, -1]),
            ])

    def test_what_was_given_to_one_that_is_gone_is_told_again(self):
        self.check(offered(0, 2) + [take(2), go(2), done(2, 0, 0), gone(2)], [
            (again(1, 0), [1, 2, 1, 0]), (done(1, 0, 0), GAP), (go(1), [1, 3, 0]), (again(1, 0), [1, 2, 0, 0]),
        ])

    def test_gone_at_the_finishing_leaves_it_to_a_look(self):
        self.check(offered(0, 1) + taken(2) + [done(2, 0, 0), go(2), gone(2)], [
            (look(1, 0), GAP), (go(1), [1, 5, 1, 1, 1]), (done(2, 0, 0), [1, 3, -1]),
            (clear(1, 0), GAP), (go(1), [1, 6, 0]),
        ])

    def test_gone_at_a_key_leaves_the_event(self):
        self.check([key(2), gone(2)], [(sleep(1, 0), [1, 8, 1]), (wake(1), GAP), (go(1), [1, 9, 0])])


if __name__ == "__main__":
    unittest.main()

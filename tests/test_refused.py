"""What is refused, with -1 or -9 alone, and that nothing changes by it."""

import unittest

from lines import GAP, LineTest, again, beginnings, board, clear, done, gaps_of_scenes, go, gone, key, look, offer
from lines import offered, run, sleep, stop, take, taken, wake

MOST = 2 ** 53 - 1


class RefusedTest(LineTest):
    def test_a_party_above_three(self):
        for party in (4, 5, MOST):
            for call in beginnings(party) + [go(party), gone(party)]:
                self.check([], [(call, [-1])])
                self.check([offer(0, 1)], [(call, [-1])])

    def test_party_three_is_one(self):
        self.check([], [(offer(3, 1), GAP), (go(3), GAP), (go(3), GAP), (go(3), [1, 0, 0, 0])])
        for call, told in ((take(3), [1, 1, -1]), (again(3, 0), [1, 2, -1]), (done(3, 0, 0), [1, 3, -1]),
                           (stop(3, 0), [1, 4, -1]), (look(3, 0), [1, 5, -1]), (clear(3, 0), [1, 6, -1]),
                           (sleep(3, 0), [1, 8, 1])):
            self.check([], [(call, told), (go(3), [-9])])
        self.check([], [(key(3), GAP), (go(3), [1, 7, 0, 1]), (wake(3), GAP), (gone(3), [2]), (wake(3), GAP)])

    def test_in_a_call(self):
        for name, before in gaps_of_scenes():
            with self.subTest(name):
                self.check(before, [(call, [-9]) for call in beginnings(2)])

    def test_in_none(self):
        for party in range(4):
            self.check([], [(go(party), [-9]), (gone(party), [-9])])
            self.check(offered(party, 1), [(go(party), [-9]), (gone(party), [-9])])
        self.check([offer(0, 1)], [(go(1), [-9]), (gone(1), [-9])])

    def test_nothing_changes(self):
        before = offered(0, 3) + taken(0) + [take(1), done(2, 0, 0)]
        refused = beginnings(1) + beginnings(2) + beginnings(4) + [go(0), gone(0), go(3), gone(3), go(4), gone(4)]
        told = run(before + [board()] + refused + [board()])
        self.assertEqual(told[-1], told[len(before)])
        self.assertEqual(told[len(before) + 1:-1], [[-9]] * 26 + [[-1]] * 13 + [[-9]] * 4 + [[-1]] * 2)
        self.check(before + refused, [(go(1), [1, 1, 0, 0, 1, 0]), (go(2), [1, 3, 0])])

    def test_nothing_changes_at_any_gap(self):
        for name, before in gaps_of_scenes():
            refused = beginnings(2) + beginnings(4) + [go(3), gone(3), go(4), gone(4)]
            after = [board(), go(2), board(), go(2), board()]
            with self.subTest(name):
                self.assertEqual(run(before + refused + after)[-5:], run(before + after)[-5:])


if __name__ == "__main__":
    unittest.main()

"""What is refused, with -1 or -9 alone, and that nothing changes by it."""

import unittest

from lines import GAP, LineTest, again, board, clear, done, go, gone, key, look, offer, offered, run, sleep, stop, take
from lines import taken, wake
from slicepool.board import NotBuilt

MOST = 2 ** 53 - 1


def beginnings(party):
    """Each of the calls that a party begins."""
    return [offer(party, 1), offer(party, 0), offer(party, 2, 3, [4, 5, 6, 7]), take(party), again(party, 0),
            done(party, 0, 0), done(party, 0, 32), stop(party, 0), look(party, 0), clear(party, 0),
            key(party), sleep(party, 0), wake(party)]


class RefusedTest(LineTest):
    def test_a_party_above_three(self):
        for party in (4, 5, MOST):
            for call in beginnings(party) + [go(party), gone(party)]:
                self.check([], [(call, [-1])])
                self.check([offer(0, 1)], [(call, [-1])])

    def test_party_three_is_one(self):
        self.check([], [(offer(3, 1), GAP), (go(3), GAP), (go(3), GAP), (go(3), [1, 0, 0, 0])])
        for call, told in ((take(3), [1, 1, -1]), (again(3, 0), [1, 2, -1]), (done(3, 0, 0), [1, 3, -1]),
                           (stop(3, 0), [1, 4, -1]), (look(3, 0), [1, 5, -1]), (clear(3, 0), [1, 6, -1])):
            self.check([], [(call, told), (go(3), [-9])])

    def test_in_a_call(self):
        at_gap = {
            "offer": [offer(2, 1)],
            "take": offered(0, 1) + [take(2)],
            "done": offered(0, 1) + taken(0) + [done(2, 0, 0)],
            "stop": offered(0, 1) + [stop(2, 0)],
            "finishing": offered(0, 1) + [stop(2, 0), go(2)],
            "look": offered(0, 1) + [stop(0, 0), go(0), look(2, 0)],
            "clear": offered(0, 1) + [stop(0, 0), go(0), go(0), clear(2, 0)],
        }
        for before in at_gap.values():
            for call in beginnings(2):
                self.check(before, [(call, [-9])])

    def test_in_none(self):
        for party in range(4):
            self.check([], [(go(party), [-9]), (gone(party), [-9])])
            self.check(offered(party, 1), [(go(party), [-9]), (gone(party), [-9])])
        self.check([offer(0, 1)], [(go(1), [-9]), (gone(1), [-9])])

    def test_nothing_changes(self):
        before = offered(0, 3) + taken(0) + [take(1), done(2, 0, 0)]
        refused = beginnings(1) + beginnings(2) + beginnings(4) + [go(0), gone(0), go(3), gone(3), go(4), gone(4)]
        told = run(before + [board()] + refused + [board()])
        self.assertEqual(told[-1], told[len(before)])
        self.assertEqual(told[len(before) + 1:-1], [[-9]] * 26 + [[-1]] * 13 + [[-9]] * 4 + [[-1]] * 2)
        self.check(before + refused, [(go(1), [1, 1, 0, 0, 1, 0]), (go(2), [1, 3, 0])])

    def test_gone_leaves_the_call_and_frees_the_party(self):
        before = offered(0, 2) + [take(1)]
        self.check(before, [(gone(1), [2]), (go(1), [-9]), (gone(1), [-9]), (take(1), GAP), (go(1), [1, 1, 0, 0, 0, 0])])

    def test_what_is_not_built_is_not_taken_for_another_call(self):
        for call in (key(0), sleep(0, 0), wake(0)):
            with self.assertRaises(NotBuilt):
                run([call])

    def test_the_board_of_a_new_line(self):
        self.check([], [(board(), [3] + [0] * 87)])


if __name__ == "__main__":
    unittest.main()

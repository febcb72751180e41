import unittest

from lines import GAP, LineTest, board, called_done, cleared, finished, go, look, offer, offered, run, stop, taken, used_up

MOST = 2 ** 53 - 1


class LookTest(LineTest):
    def test_nothing_given(self):
        for n in (1, 32):
            self.check(offered(0, n), [(look(p, 0), [1, 5, 0, 0, 0]) for p in range(4)])

    def test_given_and_done(self):
        before = offered(0, 9) + taken(1, 4)
        self.check(before, [(look(0, 0), [1, 5, 0, 4, 0])])
        self.check(before + called_done(1, 0, [1, 3]), [(look(0, 0), [1, 5, 0, 4, 2])])
        self.check(before + called_done(1, 0, range(4)), [(look(0, 0), [1, 5, 0, 4, 4])])

    def test_done_without_being_given_counts_below_the_limit(self):
        before = offered(0, 9) + taken(1, 2) + called_done(1, 0, [0, 5, 8])
        self.check(before, [(look(0, 0), [1, 5, 0, 2, 3])])
        self.check(before + [stop(2, 0), go(2)], [(look(0, 0), [1, 5, 0, 2, 1])])

    def test_finished(self):
        for n in (1, 9, 32):
            before = offered(0, n) + taken(1, n) + finished(1, 0, range(n))
            self.check(before, [(look(p, 0), [1, 5, 1, n, n]) for p in range(4)])

    def test_finished_with_less_given_than_done(self):
        self.check(offered(0, 2) + taken(1) + finished(1, 0, [0, 1]), [(look(0, 0), [1, 5, 1, 1, 2])])

    def test_finished_by_a_stop(self):
        before = offered(0, 9) + taken(1, 3) + called_done(1, 0, range(3)) + [stop(1, 0), go(1), go(1)]
        self.check(before, [(look(2, 0), [1, 5, 1, 3, 3])])

    def test_complete_finishes_it(self):
        before = offered(0, 1) + taken(1) + called_done(1, 0, [0]) + [look(2, 0)]
        self.check(before[:-1], [(look(2, 0), GAP), (go(2), [1, 5, 1, 1, 1]), (look(3, 0), [1, 5, 1, 1, 1])])
        self.assertEqual(self.slot(before, 0)["state"], [0, 2])
        self.assertEqual(self.slot(before + [go(2)], 0)["state"], [0, 4])

    def test_stopped_and_complete(self):
        before = offered(0, 3) + taken(1) + [stop(2, 0), go(2)] + called_done(1, 0, [0])
        self.check(before, [(look(2, 0), GAP), (go(2), [1, 5, 1, 1, 1]), (go(1), [1, 3, 0])])

    def test_stopped_and_not_complete(self):
        self.check(offered(0, 3) + taken(1, 2) + [stop(2, 0), go(2)], [(look(2, 0), [1, 5, 0, 2, 0])])

    def test_finished_by_another_in_the_gap(self):
        before = offered(0, 1) + taken(1) + called_done(1, 0, [0]) + [look(2, 0)]
        self.check(before + [go(1)], [(go(2), [1, 5, 1, 1, 1])])
        self.check(before + [look(3, 0), go(3)], [(go(2), [1, 5, 1, 1, 1])])

    def test_cleared_by_another_in_the_gap(self):
        before = offered(0, 1) + taken(1) + called_done(1, 0, [0]) + [look(2, 0), go(1)] + cleared(1, 0)
        self.check(before, [(go(2), [1, 5, -1])])
        again = before + offered(3, 1)
        self.check(again, [(go(2), [1, 5, -1])])
        self.assertEqual(self.slot(again + [go(2)], 0)["state"], [1, 2])
        ready = again + taken(3) + finished(3, 2, [0])
        self.check(ready, [(go(2), [1, 5, -1])])
        self.assertEqual(self.slot(ready + [go(2)], 0)["state"], [1, 4])

    def test_told_as_the_board_is_at_the_end(self):
        before = offered(0, 2) + called_done(1, 0, [0, 1]) + [look(2, 0)]
        self.check(before, [(go(2), [1, 5, 1, 0, 2])])
        self.check(before + taken(3), [(go(2), [1, 5, 1, 1, 2])])
        self.check(before + taken(3) + [stop(3, 0), go(3)], [(go(2), [1, 5, 1, 1, 1])])

    def test_of_the_second_slot(self):
        before = offered(0, 1) + offered(0, 5) + taken(1, 3)
        self.check(before, [(look(0, 0), [1, 5, 0, 1, 0]), (look(0, 1), [1, 5, 0, 2, 0])])

    def test_another_phase(self):
        self.check([], [(look(0, 0), [1, 5, -1]), (look(0, 1), [1, 5, -1])])
        for steps in range(3):
            self.check([offer(0, 1)] + [go(0)] * steps, [(look(1, 0), [1, 5, -1])])
        self.check(used_up(0, 0), [(look(1, 0), [1, 5, -1]), (look(1, 2), [1, 5, -1])])

    def test_another_stamp(self):
        for t in (1, 2, 3, MOST, MOST - 1):
            self.check(offered(0, 1), [(look(1, t), [1, 5, -1])])
            self.check(offered(0, 1) + taken(0) + finished(0, 0, [0]), [(look(1, t), [1, 5, -1])])

    def test_cleared_and_offered_again(self):
        self.check(used_up(0, 0) + offered(0, 2) + taken(0), [(look(1, 0), [1, 5, -1]), (look(1, 2), [1, 5, 0, 1, 0])])

    def test_not_complete_changes_nothing(self):
        before = offered(0, 2) + taken(1)
        told = run(before + [board(), look(1, 0), look(1, 1), look(1, 2), board()])
        self.assertEqual(told[-1], told[len(before)])


if __name__ == "__main__":
    unittest.main()

import unittest

from lines import GAP, LineTest, board, called_done, clear, cleared, finished, go, look, offer, offered, run, stop, taken
from lines import used_up

MOST = 2 ** 53 - 1
READY = offered(0, 1) + taken(0) + finished(0, 0, [0])


class ClearTest(LineTest):
    def test_finished(self):
        self.check(READY, [(clear(1, 0), GAP), (go(1), [1, 6, 0]), (look(1, 0), [1, 5, -1])])

    def test_what_is_written(self):
        self.assertEqual(self.slot(READY + [clear(1, 0)], 0)["state"], [0, 4])
        before = self.slot(READY, 0)
        self.assertEqual(self.slot(READY + cleared(1, 0), 0), dict(before, state=[1, 0]))

    def test_of_the_second_slot(self):
        before = READY + offered(0, 1) + taken(0) + finished(0, 1, [0])
        self.check(before, [(clear(1, 1), GAP), (go(1), [1, 6, 0])])
        self.assertEqual(self.slot(before + cleared(1, 1), 0)["state"], [0, 4])
        self.assertEqual(self.slot(before + cleared(1, 1), 1)["state"], [1, 0])

    def test_not_finished(self):
        self.check([], [(clear(0, 0), [1, 6, -1]), (clear(0, 1), [1, 6, -1])])
        for steps in range(4):
            self.check([offer(0, 1)] + [go(0)] * steps, [(clear(1, 0), [1, 6, -1])])
        self.check(offered(0, 2) + taken(0), [(clear(1, 0), [1, 6, -1])])

    def test_complete_but_not_finished(self):
        self.check(offered(0, 1) + taken(0) + called_done(0, 0, [0]), [
            (clear(1, 0), [1, 6, -1]), (go(0), [1, 3, 1]), (clear(1, 0), GAP), (go(1), [1, 6, 0]),
        ])

    def test_stopped_and_finished(self):
        before = offered(0, 4) + [stop(0, 0), go(0)]
        self.check(before, [(clear(1, 0), [1, 6, -1]), (go(0), [1, 4, 1, 0]), (clear(1, 0), GAP), (go(1), [1, 6, 0])])

    def test_cleared_already(self):
        self.check(READY + cleared(1, 0), [(clear(p, 0), [1, 6, -1]) for p in range(4)])
        self.check(READY + cleared(1, 0), [(clear(0, 2), [1, 6, -1])])

    def test_another_stamp(self):
        for t in (1, 2, 3, MOST, MOST - 1):
            self.check(READY, [(clear(1, t), [1, 6, -1])])

    def test_cleared_and_offered_again(self):
        before = used_up(0, 0) + offered(0, 1) + taken(0)
        self.check(before, [(clear(1, 0), [1, 6, -1]), (clear(1, 2), [1, 6, -1])])
        self.check(before + finished(0, 2, [0]), [(clear(1, 0), [1, 6, -1]), (clear(1, 2), GAP), (go(1), [1, 6, 0])])

    def test_disturbed_by_another_clear(self):
        before = READY + [clear(1, 0), clear(2, 0), clear(3, 0), go(3)]
        self.check(before, [(go(1), [1, 6, -1]), (go(2), [1, 6, -1]), (go(2), [-9])])

    def test_disturbed_and_finished_anew_behind_the_gap(self):
        before = READY + [clear(1, 0)] + cleared(2, 0) + offered(2, 1) + taken(2) + finished(2, 2, [0])
        self.check(before, [(go(1), [1, 6, -1]), (look(3, 2), [1, 5, 1, 1, 1])])

    def test_many_times_over(self):
        calls = []
        for stamp in range(8):
            calls += used_up(stamp % 4, 2 * stamp)
            self.assertEqual(self.slot(calls, 0)["state"], [stamp + 1, 0])

    def test_what_ends_at_once_changes_nothing(self):
        told = run(READY + [board(), clear(1, 1), clear(1, 2), board()])
        self.assertEqual(told[-1], told[len(READY)])


if __name__ == "__main__":
    unittest.main()

import unittest

from lines import GAP, LineTest, again, board, called_done, cleared, finished, go, look, offer, offered, run, stop, take
from lines import taken, used_up

MOST = 2 ** 53 - 1


class StopTest(LineTest):
    def test_given_and_not_done(self):
        self.check(offered(0, 5) + taken(1, 2), [(stop(0, 0), GAP), (go(0), [1, 4, 0, 2])])

    def test_nothing_given_is_complete(self):
        self.check(offered(0, 5), [(stop(1, 0), GAP), (go(1), GAP), (go(1), [1, 4, 1, 0]), (look(0, 0), [1, 5, 1, 0, 0])])

    def test_all_given_out_done(self):
        self.check(offered(0, 5) + taken(1, 2) + called_done(1, 0, [0, 1]), [
            (stop(1, 0), GAP), (go(1), GAP), (go(1), [1, 4, 1, 2]),
        ])

    def test_some_given_out_done(self):
        self.check(offered(0, 5) + taken(1, 2) + called_done(1, 0, [1]), [(stop(1, 0), GAP), (go(1), [1, 4, 0, 2])])

    def test_all_slices_given(self):
        self.check(offered(0, 32) + taken(1, 32), [(stop(1, 0), GAP), (go(1), [1, 4, 0, 32])])

    def test_of_the_second_slot(self):
        self.check(offered(0, 1) + offered(0, 5) + taken(1, 3), [
            (stop(1, 1), GAP), (go(1), [1, 4, 0, 2]), (stop(1, 0), GAP), (go(1), [1, 4, 0, 1]),
        ])

    def test_what_is_written(self):
        before = offered(0, 5) + taken(1, 2) + [stop(0, 0)]
        self.assertEqual(self.slot(before, 0)["next"], [0, 2, 0])
        self.assertEqual(self.slot(before + [go(0)], 0)["next"], [0, 2, 1])
        self.assertEqual(self.slot(before + [go(0)], 0)["state"], [0, 2])

    def test_stopped_already(self):
        for given in (1, 2, 5):
            before = offered(0, 5) + taken(1, given) + [stop(0, 0), go(0)]
            self.check(before, [(stop(p, 0), [1, 4, 2, given]) for p in range(4)])

    def test_stopped_already_and_complete_but_not_finished(self):
        self.check(offered(0, 5) + [stop(0, 0), go(0)], [(stop(1, 0), [1, 4, 2, 0]), (go(0), [1, 4, 1, 0])])

    def test_another_phase(self):
        self.check([], [(stop(0, 0), [1, 4, -1]), (stop(0, 1), [1, 4, -1])])
        for steps in range(3):
            self.check([offer(0, 1)] + [go(0)] * steps, [(stop(1, 0), [1, 4, -1])])
        self.check(offered(0, 1) + taken(0) + finished(0, 0, [0]), [(stop(1, 0), [1, 4, -1])])
        self.check(offered(0, 1) + [stop(0, 0), go(0), go(0)], [(stop(1, 0), [1, 4, -1])])
        self.check(used_up(0, 0), [(stop(1, 0), [1, 4, -1]), (stop(1, 2), [1, 4, -1])])

    def test_another_stamp(self):
        for t in (1, 2, 3, MOST, MOST - 1):
            self.check(offered(0, 1), [(stop(1, t), [1, 4, -1]), (take(1), GAP)])

    def test_cleared_and_offered_again(self):
        self.check(used_up(0, 0) + offered(0, 2) + taken(0), [
            (stop(1, 0), [1, 4, -1]), (stop(1, 2), GAP), (go(1), [1, 4, 0, 1]),
        ])

    def test_disturbed_by_another_stop(self):
        self.check(offered(0, 5) + taken(1, 2) + [stop(1, 0), stop(2, 0), go(2)], [(go(1), [1, 4, 2, 2]), (go(1), [-9])])

    def test_disturbed_once_and_twice(self):
        for times in (1, 2):
            rows = []
            for k in range(times):
                rows += [(take(2), GAP), (go(2), [1, 1, 0, 0, k, 0]), (go(1), GAP)]
            self.check(offered(0, 9) + [stop(1, 0)], rows + [(go(1), [1, 4, 0, times])])

    def test_disturbed_three_times(self):
        self.check(offered(0, 9) + [stop(1, 0)] + taken(2), [
            (go(1), GAP), (take(2), GAP), (go(2), [1, 1, 0, 0, 1, 0]),
            (go(1), GAP), (take(2), GAP), (go(2), [1, 1, 0, 0, 2, 0]),
            (go(1), [1, 4, -2]), (go(1), [-9]),
            (take(2), GAP), (go(2), [1, 1, 0, 0, 3, 0]), (stop(1, 0), GAP), (go(1), [1, 4, 0, 4]),
        ])

    def test_done_does_not_disturb(self):
        before = offered(0, 9) + taken(1, 2) + [stop(1, 0)] + called_done(2, 0, [0])
        self.check(before, [(go(1), [1, 4, 0, 2])])

    def test_another_stamp_behind_the_gap(self):
        before = offered(0, 1) + [stop(1, 0)] + taken(2) + finished(2, 0, [0]) + cleared(2, 0) + offered(2, 3)
        self.check(before, [(go(1), [1, 4, -1]), (take(1), GAP), (go(1), [1, 1, 0, 2, 0, 0])])

    def test_another_stamp_with_the_same_numbers_behind_the_gap(self):
        before = offered(0, 1) + taken(0) + [stop(1, 0)] + finished(2, 0, [0]) + cleared(2, 0) + offered(2, 3) + taken(2)
        self.check(before, [(go(1), [1, 4, -1])])
        self.assertEqual(self.slot(before + [go(1)], 0)["next"], [1, 1, 0])

    def test_finished_behind_the_gap(self):
        before = offered(0, 1) + taken(0) + [stop(1, 0)] + finished(2, 0, [0])
        for after in ([], cleared(2, 0)):
            self.check(before + after, [(go(1), GAP), (go(1), [1, 4, 0, 1])])

    def test_finished_by_another_in_the_finishing_gap(self):
        before = offered(0, 3) + taken(1) + called_done(1, 0, [0]) + [stop(1, 0), go(1), look(2, 0), go(2)]
        self.check(before, [(go(1), [1, 4, 0, 1])])
        self.check(before + cleared(2, 0), [(go(1), [1, 4, 0, 1])])

    def test_the_number_told_is_the_one_at_the_stop(self):
        before = offered(0, 3) + taken(1) + called_done(1, 0, [0]) + [stop(1, 0), go(1), look(2, 0), go(2)]
        before += cleared(2, 0) + offered(2, 9) + taken(3, 4)
        self.check(before, [(go(1), [1, 4, 0, 1]), (again(1, 2), [1, 2, 1, 0])])

    def test_what_ends_at_once_changes_nothing(self):
        before = offered(0, 2) + taken(1) + [stop(1, 0), go(1)]
        told = run(before + [board(), stop(1, 0), stop(1, 1), stop(1, 2), board()])
        self.assertEqual(told[-1], told[len(before)])


if __name__ == "__main__":
    unittest.main()

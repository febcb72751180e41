import unittest

from lines import GAP, LineTest, again, board, called_done, clear, cleared, done, finished, go, look, offer, offered, run
from lines import stop, taken, used_up

MOST = 2 ** 53 - 1


class DoneTest(LineTest):
    def test_not_the_last(self):
        self.check(offered(0, 2) + taken(1, 2), [(done(1, 0, 0), GAP), (go(1), [1, 3, 0])])

    def test_the_last_finishes(self):
        self.check(offered(0, 2) + taken(1, 2) + called_done(1, 0, [1]), [
            (done(1, 0, 0), GAP), (go(1), GAP), (go(1), [1, 3, 1]), (look(1, 0), [1, 5, 1, 2, 2]),
        ])

    def test_one_slice_and_thirty_two(self):
        for n in (1, 32):
            rows = [(done(1, 0, n - 1), GAP), (go(1), GAP), (go(1), [1, 3, 1])]
            self.check(offered(0, n) + taken(1, n) + called_done(1, 0, range(n - 1)), rows)

    def test_the_mark_stands_in_its_word(self):
        for k in range(32):
            words = self.slot(offered(0, 32) + taken(1, k + 1) + called_done(1, 0, [k]), 0)["words"]
            marks = [mark for stamp, word in words for mark in word]
            self.assertEqual(marks, [1 if at == k else 0 for at in range(32)])
            self.assertEqual([stamp for stamp, word in words], [0, 0, 0, 0])

    def test_marks_stay_beside_one_another(self):
        words = self.slot(offered(0, 32) + taken(1, 32) + called_done(1, 0, [0, 3, 7, 8, 31]), 0)["words"]
        self.assertEqual(words[0], (0, [1, 0, 0, 1, 0, 0, 0, 1]))
        self.assertEqual(words[1], (0, [1, 0, 0, 0, 0, 0, 0, 0]))
        self.assertEqual(words[2], (0, [0] * 8))
        self.assertEqual(words[3], (0, [0, 0, 0, 0, 0, 0, 0, 1]))

    def test_nothing_is_marked_at_the_gap(self):
        self.assertEqual(self.slot(offered(0, 2) + taken(1) + [done(1, 0, 0)], 0)["words"], [(0, [0] * 8)] * 4)

    def test_k_at_and_above_the_number_of_slices(self):
        for n in (1, 2, 8, 31):
            rows = [(done(0, 0, n), [1, 3, -3]), (done(0, 0, n + 1), [1, 3, -3 if n < 31 else -4])]
            self.check(offered(0, n), rows + [(done(0, 0, 31), [1, 3, -3]), (done(0, 0, n - 1), GAP)])

    def test_k_at_thirty_two_and_above(self):
        for k in (32, 33, 64, MOST):
            self.check(offered(0, 2), [(done(0, 0, k), [1, 3, -4])])
            self.check(offered(0, 32), [(done(0, 0, k), [1, 3, -4])])

    def test_wrong_k_comes_ahead_of_a_wrong_ticket(self):
        self.check([], [(done(0, 0, 32), [1, 3, -4]), (done(0, 9, 32), [1, 3, -4]), (done(0, 0, 31), [1, 3, -1])])

    def test_wrong_ticket_comes_ahead_of_k_above_the_slices(self):
        self.check(offered(0, 2), [(done(0, 2, 5), [1, 3, -1]), (done(0, 1, 5), [1, 3, -1]), (done(0, 0, 5), [1, 3, -3])])

    def test_another_phase(self):
        for steps in range(3):
            self.check([offer(0, 1)] + [go(0)] * steps, [(done(1, 0, 0), [1, 3, -1])])
        self.check(offered(0, 1) + taken(0) + finished(0, 0, [0]), [(done(1, 0, 0), [1, 3, -1])])
        self.check(used_up(0, 0), [(done(1, 0, 0), [1, 3, -1]), (done(1, 2, 0), [1, 3, -1])])

    def test_another_stamp(self):
        for t in (1, 2, 3, MOST, MOST - 1):
            self.check(offered(0, 1) + taken(0), [(done(1, t, 0), [1, 3, -1])])

    def test_cleared_and_offered_again(self):
        self.check(used_up(0, 0) + offered(0, 2) + taken(0), [
            (done(1, 0, 0), [1, 3, -1]), (done(1, 2, 0), GAP), (go(1), [1, 3, 0]),
        ])

    def test_done_already(self):
        self.check(offered(0, 2) + taken(1) + called_done(1, 0, [0]), [(done(p, 0, 0), [1, 3, 2]) for p in range(4)])

    def test_done_already_though_complete(self):
        self.check(offered(0, 1) + taken(1) + called_done(1, 0, [0]), [
            (done(2, 0, 0), [1, 3, 2]), (go(1), [1, 3, 1]),
        ])

    def test_disturbed_by_the_same_slice(self):
        self.check(offered(0, 2) + taken(1) + [done(1, 0, 0)] + called_done(2, 0, [0]), [(go(1), [1, 3, 2]), (go(1), [-9])])

    def test_disturbed_once_and_twice(self):
        for times in (1, 2):
            rows = []
            for k in range(times):
                rows += [(done(2, 0, k), GAP), (go(2), [1, 3, 0]), (go(1), GAP)]
            self.check(offered(0, 9) + taken(1, 9) + [done(1, 0, 7)], rows + [(go(1), [1, 3, 0])])

    def test_disturbed_three_times(self):
        self.check(offered(0, 9) + taken(1, 9) + [done(1, 0, 7)] + called_done(2, 0, [0]), [
            (go(1), GAP), (done(2, 0, 1), GAP), (go(2), [1, 3, 0]),
            (go(1), GAP), (done(2, 0, 2), GAP), (go(2), [1, 3, 0]),
            (go(1), [1, 3, -2]), (go(1), [-9]), (again(1, 0), [1, 2, 1, 3]),
            (done(1, 0, 7), GAP), (go(1), [1, 3, 0]),
        ])

    def test_a_disturbed_mark_keeps_the_others(self):
        calls = offered(0, 9) + taken(1, 9) + [done(1, 0, 7)] + called_done(2, 0, [0]) + [go(1), go(1)]
        self.assertEqual(self.slot(calls, 0)["words"][0], (0, [1, 0, 0, 0, 0, 0, 0, 1]))

    def test_another_word_does_not_disturb(self):
        before = offered(0, 32) + taken(1, 32) + [done(1, 0, 7)] + called_done(2, 0, [8, 16, 24])
        self.check(before, [(go(1), [1, 3, 0])])

    def test_another_slot_does_not_disturb(self):
        before = offered(0, 2) + offered(0, 2) + taken(1, 4) + [done(1, 0, 0)] + called_done(2, 1, [0])
        self.check(before, [(go(1), [1, 3, 0])])

    def test_a_take_and_a_stop_do_not_disturb(self):
        before = offered(0, 3) + taken(1, 2) + [done(1, 0, 0)] + taken(2) + [stop(3, 0), go(3)]
        self.check(before, [(go(1), [1, 3, 0])])

    def test_another_stamp_in_the_word_behind_the_gap(self):
        before = offered(0, 1) + taken(1) + [done(1, 0, 0)]
        before += finished(2, 0, [0]) + cleared(2, 0) + offered(3, 1)
        self.check(before, [(go(1), [1, 3, -1]), (again(2, 2), [1, 2, 0, 0])])

    def test_the_slot_cleared_but_not_laid_behind_the_gap(self):
        before = offered(0, 1) + taken(1) + [done(1, 0, 0)] + finished(2, 0, [0]) + cleared(2, 0)
        self.check(before, [(go(1), [1, 3, 2])])
        self.check(before + [offer(3, 1), go(3)], [(go(1), [1, 3, 2])])

    def test_a_late_mark_on_an_old_word_does_no_harm(self):
        before = offered(0, 2) + [done(1, 0, 0), stop(2, 0), go(2), go(2)] + cleared(2, 0)
        self.check(before, [(go(1), GAP), (go(1), [1, 3, 0])])
        after = before + offered(3, 2)
        self.check(after, [(go(1), [1, 3, -1])])
        self.assertEqual(self.slot(before + [go(1), go(1)] + offered(3, 2), 0)["words"], [(1, [0] * 8)] * 4)

    def test_of_a_stopped_ticket_the_last_given_one_finishes(self):
        before = offered(0, 5) + taken(1, 2) + [stop(0, 0), go(0)] + called_done(1, 0, [1])
        self.check(before, [(done(1, 0, 0), GAP), (go(1), GAP), (go(1), [1, 3, 1]), (look(0, 0), [1, 5, 1, 2, 2])])

    def test_all_given_done_but_not_stopped_is_not_complete(self):
        self.check(offered(0, 3) + taken(1, 2) + called_done(1, 0, [0]), [(done(1, 0, 1), GAP), (go(1), [1, 3, 0])])

    def test_finished_by_another_in_the_finishing_gap(self):
        before = offered(0, 1) + taken(1) + called_done(1, 0, [0])
        self.check(before + [look(2, 0), go(2)], [(go(1), [1, 3, 0])])
        self.check(before + [look(2, 0), go(2)] + cleared(2, 0), [(go(1), [1, 3, 0])])
        self.check(before + [look(2, 0), go(2)] + cleared(2, 0) + offered(3, 1), [
            (go(1), [1, 3, 0]), (again(0, 2), [1, 2, 0, 0]),
        ])

    def test_what_ends_at_once_changes_nothing(self):
        before = offered(0, 2) + taken(1) + called_done(1, 0, [0])
        wrong = [done(1, 0, 0), done(1, 0, 2), done(1, 0, 32), done(1, 1, 0), done(1, 2, 0), clear(1, 0)]
        told = run(before + [board()] + wrong + [board()])
        self.assertEqual(told[-1], told[len(before)])


if __name__ == "__main__":
    unittest.main()

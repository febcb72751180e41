import unittest

from lines import GAP, LineTest, called_done, cleared, finished, go, offer, offered, stop, take, taken


class TakeTest(LineTest):
    def test_nothing_there(self):
        self.check([], [(take(p), [1, 1, -1]) for p in range(4)])

    def test_slices_one_behind_another(self):
        rows = []
        for k in range(32):
            rows += [(take(k % 4), GAP), (go(k % 4), [1, 1, 0, 0, k, 3, 8, 9])]
        self.check(offered(0, 32, 3, [8, 9]), rows + [(take(0), [1, 1, -1])])

    def test_the_second_slot_when_the_first_is_given_out(self):
        self.check(offered(0, 1, 1) + offered(0, 2, 2) + taken(0), [
            (take(1), GAP), (go(1), [1, 1, 0, 1, 0, 2]),
            (take(2), GAP), (go(2), [1, 1, 0, 1, 1, 2]),
            (take(3), [1, 1, -1]),
        ])

    def test_the_first_slot_first(self):
        before = offered(0, 1) + offered(1, 2, 5) + taken(0) + finished(0, 0, [0]) + cleared(0, 0)
        self.check(before, [(take(2), GAP), (go(2), [1, 1, 0, 1, 0, 5])])
        self.check(before + offered(0, 1, 6), [(take(2), GAP), (go(2), [1, 1, 0, 2, 0, 6])])

    def test_not_of_a_stopped_ticket(self):
        before = offered(0, 3) + taken(0) + [stop(0, 0), go(0)]
        self.check(before, [(take(1), [1, 1, -1])])
        self.check(before + offered(2, 1, 4), [(take(1), GAP), (go(1), [1, 1, 0, 1, 0, 4])])

    def test_not_of_a_finished_ticket(self):
        self.check(offered(0, 1) + taken(0) + finished(0, 0, [0]), [(take(1), [1, 1, -1])])

    def test_not_of_a_finished_ticket_of_which_less_was_given_than_done(self):
        self.check(offered(0, 1) + finished(0, 0, [0]), [(take(1), [1, 1, -1])])

    def test_done_slices_are_given_all_the_same(self):
        self.check(offered(0, 3) + called_done(0, 0, [0]), [(take(1), GAP), (go(1), [1, 1, 0, 0, 0, 0])])

    def test_disturbed_once_takes_the_slice_behind(self):
        self.check(offered(0, 3, 7, [5]) + [take(1), take(2), go(2)], [
            (go(1), GAP), (go(1), [1, 1, 0, 0, 1, 7, 5]),
        ])

    def test_disturbed_twice(self):
        self.check(offered(0, 3) + [take(1)] + taken(2), [
            (go(1), GAP), (take(2), GAP), (go(2), [1, 1, 0, 0, 1, 0]),
            (go(1), GAP), (go(1), [1, 1, 0, 0, 2, 0]),
        ])

    def test_disturbed_three_times(self):
        self.check(offered(0, 9) + [take(1)] + taken(2), [
            (go(1), GAP), (take(2), GAP), (go(2), [1, 1, 0, 0, 1, 0]),
            (go(1), GAP), (take(2), GAP), (go(2), [1, 1, 0, 0, 2, 0]),
            (go(1), [1, 1, -2]), (go(1), [-9]),
            (take(1), GAP), (go(1), [1, 1, 0, 0, 3, 0]),
        ])

    def test_the_fails_of_one_call_do_not_count_for_the_next(self):
        rows = []
        for k in range(0, 12, 2):
            rows += [(take(1), GAP), (take(2), GAP), (go(2), [1, 1, 0, 0, k, 0])]
            rows += [(go(1), GAP), (go(1), [1, 1, 0, 0, k + 1, 0])]
        self.check(offered(0, 12), rows)

    def test_disturbed_and_nothing_left(self):
        self.check(offered(0, 1) + [take(1)] + taken(2), [(go(1), [1, 1, -1]), (go(1), [-9])])

    def test_disturbed_and_on_to_the_second_slot(self):
        self.check(offered(0, 1) + offered(0, 1, 4, [6]) + [take(1)] + taken(2), [
            (go(1), GAP), (go(1), [1, 1, 0, 1, 0, 4, 6]),
        ])

    def test_fails_count_over_both_slots(self):
        self.check(offered(0, 1) + offered(0, 9) + [take(1)] + taken(2), [
            (go(1), GAP), (take(2), GAP), (go(2), [1, 1, 0, 1, 0, 0]),
            (go(1), GAP), (take(2), GAP), (go(2), [1, 1, 0, 1, 1, 0]),
            (go(1), [1, 1, -2]),
        ])

    def test_looks_from_the_same_slot_on_and_not_from_the_first(self):
        before = offered(0, 1) + offered(0, 3) + taken(0) + [take(1)] + taken(2)
        before += finished(0, 0, [0]) + cleared(0, 0) + offered(0, 1)
        self.check(before, [
            (go(1), GAP), (go(1), [1, 1, 0, 1, 1, 0]),
            (take(1), GAP), (go(1), [1, 1, 0, 2, 0, 0]),
        ])

    def test_a_slot_opened_behind_the_look_is_found_when_it_comes_later(self):
        before = offered(0, 1) + [take(1)] + taken(2) + offered(3, 1, 8)
        self.check(before, [(go(1), GAP), (go(1), [1, 1, 0, 1, 0, 8])])

    def test_stopped_in_the_gap(self):
        self.check(offered(0, 3) + [take(1), stop(2, 0), go(2)], [(go(1), [1, 1, -1])])

    def test_stopped_in_the_gap_and_on_to_the_second_slot(self):
        before = offered(0, 3) + offered(0, 3, 2) + [take(1), stop(2, 0), go(2)]
        self.check(before, [(go(1), GAP), (go(1), [1, 1, 0, 1, 0, 2])])

    def test_another_job_in_the_slot_behind_the_gap(self):
        before = offered(0, 1, 1, [1]) + [take(1)] + taken(2) + finished(2, 0, [0]) + cleared(2, 0)
        self.check(before + offered(0, 1, 2, [2, 3]), [(go(1), GAP), (go(1), [1, 1, 0, 2, 0, 2, 2, 3])])
        self.check(before + [offer(0, 1, 2, [2, 3]), go(0), go(0)], [(go(1), [1, 1, -1])])

    def test_what_was_given_stands_on_the_board(self):
        for times in range(4):
            self.assertEqual(self.slot(offered(0, 3) + taken(1, times), 0)["next"], [0, times, 0])
        self.assertEqual(self.slot(offered(0, 3) + [take(1)], 0)["next"], [0, 0, 0])


if __name__ == "__main__":
    unittest.main()

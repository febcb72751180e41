import unittest

from lines import GAP, LineTest, cleared, finished, go, gone, gos, offer, offered, stop, take, taken, used_up

MOST = 2 ** 53 - 1
NO_WORDS = [(0, [0] * 8)] * 4


class OfferTest(LineTest):
    def test_three_gaps_then_the_ticket(self):
        self.check([], [(offer(0, 2, 7, [5]), GAP), (go(0), GAP), (go(0), GAP), (go(0), [1, 0, 0, 0])])

    def test_second_offer_has_the_second_slot(self):
        self.check(offered(0, 2), [(offer(1, 3), GAP), (go(1), GAP), (go(1), GAP), (go(1), [1, 0, 0, 1])])

    def test_how_many_slices(self):
        for n in (0, 33, 34, 64, MOST):
            self.check([], [(offer(0, n), [1, 0, -4]), (offer(0, 1), GAP)])
        for n in (1, 2, 31, 32):
            self.check([], [(offer(0, n), GAP), (go(0), GAP), (go(0), GAP), (go(0), [1, 0, 0, 0])])

    def test_wrong_number_comes_ahead_of_no_slot(self):
        full = offered(0, 1) + offered(0, 1)
        self.check(full, [(offer(1, 0), [1, 0, -4]), (offer(1, 33), [1, 0, -4]), (offer(1, 1), [1, 0, -1])])

    def test_no_slot_left(self):
        self.check(offered(0, 1) + offered(0, 1), [(offer(p, 1), [1, 0, -1]) for p in range(4)])

    def test_a_slot_being_laid_is_not_free(self):
        self.check([offer(0, 1), go(0)] + offered(1, 1), [(offer(2, 1), [1, 0, -1])])
        self.check([offer(0, 1), go(0), go(0)] + offered(1, 1), [(offer(2, 1), [1, 0, -1])])

    def test_a_finished_slot_is_not_free(self):
        both = offered(0, 1) + taken(0) + finished(0, 0, [0]) + offered(1, 1)
        self.check(both, [(offer(0, 1), [1, 0, -1])])

    def test_what_is_written_step_by_step(self):
        calls = [offer(0, 3, 9, [1])]
        free = {"state": [0, 0], "next": [0, 0, 0], "slices": 0, "kind": 0, "words": NO_WORDS}
        self.assertEqual(self.slot(calls, 0), free)
        calls.append(go(0))
        self.assertEqual(self.slot(calls, 0), dict(free, state=[0, 1]))
        calls.append(go(0))
        self.assertEqual(self.slot(calls, 0), dict(free, state=[0, 1], slices=3, kind=9))
        calls.append(go(0))
        self.assertEqual(self.slot(calls, 0), dict(free, state=[0, 2], slices=3, kind=9))
        self.assertEqual(self.slot(calls, 1), free)

    def test_a_slot_laid_again_has_nothing_of_the_last_job(self):
        first = offered(0, 32) + taken(0, 9) + finished_at_nine() + cleared(0, 0)
        calls = first + offered(1, 4, 6, [8])
        laid = {"state": [1, 2], "next": [1, 0, 0], "slices": 4, "kind": 6, "words": [(1, [0] * 8)] * 4}
        self.assertEqual(self.slot(calls, 0), laid)
        self.check(calls, [(take(2), GAP), (go(2), [1, 1, 0, 2, 0, 6, 8])])

    def test_cleared_slot_keeps_its_last_job_until_the_lay(self):
        before = offered(0, 1, 5) + taken(0) + finished(0, 0, [0]) + cleared(0, 0)
        old = {"state": [1, 0], "next": [0, 1, 0], "slices": 1, "kind": 5,
               "words": [(0, [1] + [0] * 7)] + [(0, [0] * 8)] * 3}
        self.assertEqual(self.slot(before, 0), old)
        self.assertEqual(self.slot(before + [offer(1, 2), go(1)], 0), dict(old, state=[1, 1]))

    def test_tickets_go_on_with_the_stamp(self):
        calls = []
        for stamp in range(5):
            self.check(calls + offered(0, 1)[:-1], [(go(0), [1, 0, 0, 2 * stamp])])
            calls = calls + used_up(0, 2 * stamp)
        second = calls + offered(0, 1)
        self.check(second + offered(1, 1)[:-1], [(go(1), [1, 0, 0, 1])])

    def test_disturbed_goes_to_the_next_slot(self):
        self.check([offer(0, 1), offer(1, 1), go(1)], [
            (go(0), GAP), (go(0), GAP), (go(0), GAP), (go(0), [1, 0, 0, 1]),
            (go(1), GAP), (go(1), [1, 0, 0, 0]),
        ])

    def test_disturbed_with_no_free_slot_behind(self):
        before = [offer(0, 1), offer(1, 1), go(1)] + offered(2, 1)
        self.check(before, [(go(0), [1, 0, -1]), (go(0), [-9])])

    def test_disturbed_at_both_slots(self):
        self.check([offer(0, 1), offer(1, 1), go(1)], [
            (go(0), GAP), (offer(2, 1), GAP), (go(2), GAP), (go(0), [1, 0, -1]),
        ])

    def test_a_disturbed_offer_does_not_come_back_to_a_slot_that_is_free_again(self):
        before = [offer(0, 1)] + offered(1, 1) + offered(2, 1)
        before += taken(1) + finished(1, 0, [0]) + cleared(1, 0)
        self.check(before, [(go(0), [1, 0, -1]), (offer(0, 1), GAP)])

    def test_another_stamp_of_the_same_phase_disturbs(self):
        before = [offer(0, 1)] + used_up(1, 0)
        self.check(before, [(go(0), GAP), (go(0), GAP), (go(0), GAP), (go(0), [1, 0, 0, 1])])

    def test_the_job_is_told_to_who_takes(self):
        for job in ([], [0], [MOST], [1, 2], [4, 3, 2, 1], [MOST] * 4):
            self.check(offered(0, 1, MOST, job), [(take(0), GAP), (go(0), [1, 1, 0, 0, 0, MOST] + job)])

    def test_not_to_be_taken_before_it_is_shown(self):
        for steps in range(3):
            self.check([offer(0, 1)] + gos(0, steps), [(take(1), [1, 1, -1])])

    def test_an_offer_left_in_the_middle_keeps_its_slot(self):
        self.check([offer(0, 1), go(0), gone(0)] + offered(1, 1), [(offer(2, 1), [1, 0, -1]), (offer(0, 1), [1, 0, -1])])


def finished_at_nine():
    return [stop(0, 0), go(0)] + finished(0, 0, range(9))


if __name__ == "__main__":
    unittest.main()

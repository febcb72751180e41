import unittest

from lines import LineTest, again, board, called_done, finished, go, offer, offered, run, stop, taken, used_up


class AgainTest(LineTest):
    def test_nothing_given(self):
        self.check(offered(0, 3), [(again(1, 0), [1, 2, 0, 0])])

    def test_the_least_given_and_not_done(self):
        before = offered(0, 5) + taken(1, 4)
        self.check(before, [(again(p, 0), [1, 2, 1, 0]) for p in range(4)])
        self.check(before + called_done(1, 0, [1]), [(again(2, 0), [1, 2, 1, 0])])
        self.check(before + called_done(1, 0, [0]), [(again(2, 0), [1, 2, 1, 1])])
        self.check(before + called_done(1, 0, [0, 2]), [(again(2, 0), [1, 2, 1, 1])])
        self.check(before + called_done(1, 0, [2, 1, 0]), [(again(2, 0), [1, 2, 1, 3])])

    def test_what_is_not_given_is_not_told(self):
        before = offered(0, 5) + taken(1, 2) + called_done(1, 0, [0, 1])
        self.check(before, [(again(2, 0), [1, 2, 0, 0])])

    def test_over_the_words(self):
        before = offered(0, 32) + taken(1, 32)
        for k in (7, 8, 15, 16, 24, 31):
            self.check(before + called_done(1, 0, range(k)), [(again(0, 0), [1, 2, 1, k])])

    def test_of_a_stopped_ticket(self):
        before = offered(0, 5) + taken(1, 2) + [stop(0, 0), go(0)]
        self.check(before, [(again(2, 0), [1, 2, 1, 0])])
        self.check(before + called_done(1, 0, [0]), [(again(2, 0), [1, 2, 1, 1])])

    def test_complete_but_not_finished(self):
        before = offered(0, 1) + taken(1) + called_done(1, 0, [0])
        self.check(before, [(again(2, 0), [1, 2, 0, 0]), (go(1), [1, 3, 1]), (again(2, 0), [1, 2, -1])])

    def test_of_the_second_slot(self):
        before = offered(0, 5) + offered(0, 1) + taken(1, 6)
        self.check(before + called_done(2, 0, [0]), [(again(2, 1), [1, 2, 1, 0]), (again(2, 0), [1, 2, 1, 1])])

    def test_another_phase(self):
        self.check([], [(again(0, 0), [1, 2, -1]), (again(0, 1), [1, 2, -1])])
        for steps in range(3):
            self.check([offer(0, 1)] + [go(0)] * steps, [(again(1, 0), [1, 2, -1])])
        self.check(offered(0, 1) + taken(0) + finished(0, 0, [0]), [(again(1, 0), [1, 2, -1])])
        self.check(used_up(0, 0), [(again(1, 0), [1, 2, -1]), (again(1, 2), [1, 2, -1])])

    def test_another_stamp(self):
        for t in (1, 2, 3, 4, 2 ** 53 - 1, 2 ** 53 - 2):
            self.check(offered(0, 1) + taken(0), [(again(1, t), [1, 2, -1]), (again(1, 0), [1, 2, 1, 0])])

    def test_cleared_and_offered_again(self):
        before = used_up(0, 0) + offered(0, 2) + taken(0)
        self.check(before, [(again(1, 0), [1, 2, -1]), (again(1, 2), [1, 2, 1, 0])])

    def test_no_gap_and_nothing_written(self):
        before = offered(0, 3) + taken(1)
        self.check(before + [again(2, 0)], [(go(2), [-9])])
        told = run(before + [board(), again(2, 0), again(2, 1), board()])
        self.assertEqual(told[-1], told[-4])

    def test_a_slice_given_meanwhile_is_told(self):
        before = offered(0, 3) + taken(1) + called_done(1, 0, [0])
        self.check(before, [(again(2, 0), [1, 2, 0, 0])])
        self.check(before + taken(1), [(again(2, 0), [1, 2, 1, 1])])


if __name__ == "__main__":
    unittest.main()

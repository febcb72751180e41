import unittest

from lines import GAP, LineTest, board, go, gone, key, keyed, offer, offered, run, sleep, taken, wake, woken


class KeyTest(LineTest):
    def test_even_event(self):
        self.check([], [(key(0), GAP), (go(0), [1, 7, 0, 1])])
        self.check(woken(1), [(key(0), GAP), (go(0), [1, 7, 0, 3])])
        self.check(woken(1) * 5, [(key(0), GAP), (go(0), [1, 7, 0, 11])])

    def test_odd_event(self):
        self.check(keyed(0), [(key(p), GAP) for p in range(4)] + [(go(p), [1, 7, 0, 1]) for p in range(4)])
        self.check(woken(0) + keyed(0), [(key(1), GAP), (go(1), [1, 7, 0, 3])])

    def test_nothing_is_written_ahead_of_the_gap(self):
        self.assertEqual(self.event([key(0)]), 0)
        self.assertEqual(self.event([key(0), go(0)]), 1)
        self.assertEqual(self.event([key(0), go(0), key(0), go(0)]), 1)

    def test_the_event_is_looked_at_behind_the_gap(self):
        self.check([key(0)] + woken(1), [(go(0), [1, 7, 0, 3])])
        self.check([key(0)] + keyed(1), [(go(0), [1, 7, 0, 1])])
        self.check([key(0)] + keyed(1) + woken(1), [(go(0), [1, 7, 0, 3])])
        self.check(keyed(0) + [key(0)] + woken(1), [(go(0), [1, 7, 0, 3])])
        self.check(keyed(0) + [key(0)] + woken(1) + keyed(1), [(go(0), [1, 7, 0, 3])])

    def test_is_never_disturbed(self):
        before = [key(0)] + woken(1) + keyed(2) + woken(3) + keyed(1) + woken(2)
        self.check(before, [(go(0), [1, 7, 0, 7]), (go(0), [-9])])

    def test_keys_beside_one_another(self):
        self.check([key(p) for p in range(4)], [(go(p), [1, 7, 0, 1]) for p in range(4)])
        self.assertEqual(self.event([key(p) for p in range(4)] + [go(p) for p in range(4)]), 1)

    def test_without_a_wake_behind_it(self):
        self.check(keyed(0), [(sleep(p, 1), [1, 8, 1]) for p in range(4)])
        self.check(woken(0) + keyed(0) + keyed(1), [(sleep(0, 3), [1, 8, 1]), (sleep(1, 3), [1, 8, 1])])

    def test_with_a_wake_behind_it(self):
        self.check(keyed(0) + woken(1), [(sleep(p, 1), [1, 8, 0]) for p in range(4)])
        self.check(keyed(0) + woken(1) + keyed(2), [(sleep(0, 1), [1, 8, 0]), (sleep(2, 3), [1, 8, 1])])

    def test_with_a_wake_behind_it_that_is_at_its_gap(self):
        self.check(keyed(0) + [wake(1)], [(sleep(0, 1), [1, 8, 1]), (go(1), [1, 9, 1]), (sleep(0, 1), [1, 8, 0])])
        self.check(keyed(0) + [wake(1), gone(1)], [(sleep(0, 1), [1, 8, 1])])

    def test_with_a_wake_begun_ahead_of_it(self):
        self.check([wake(1)] + keyed(0), [
            (sleep(0, 1), [1, 8, 1]), (go(1), GAP), (sleep(0, 1), [1, 8, 1]),
            (go(1), [1, 9, 1]), (sleep(0, 1), [1, 8, 0]),
        ])

    def test_gone_at_its_gap(self):
        self.check([key(0)], [(gone(0), [2]), (go(0), [-9]), (key(0), GAP), (go(0), [1, 7, 0, 1])])
        self.assertEqual(self.event([key(0), gone(0)]), 0)

    def test_the_slots_stay(self):
        before = offered(0, 3, 4, [5]) + taken(1) + [offer(2, 1), go(2)]
        told = run(before + [board(), key(0), go(0), board()])
        self.assertEqual(told[-1][1], 1)
        self.assertEqual(told[-1][2:], told[len(before)][2:])


if __name__ == "__main__":
    unittest.main()

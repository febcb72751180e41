import unittest

from lines import LineTest, board, go, key, keyed, run, sleep, wake, woken

MOST = 2 ** 53 - 1


class SleepTest(LineTest):
    def test_on_the_event(self):
        self.check([], [(sleep(p, 0), [1, 8, 1]) for p in range(4)])
        self.check(keyed(0), [(sleep(0, 1), [1, 8, 1])])
        self.check(woken(0), [(sleep(0, 2), [1, 8, 1])])
        self.check(keyed(0) + woken(0), [(sleep(0, 2), [1, 8, 1])])
        self.check(keyed(0) + woken(0) + keyed(0), [(sleep(0, 3), [1, 8, 1])])

    def test_on_another_number(self):
        self.check([], [(sleep(p, 1), [1, 8, 0]) for p in range(4)])
        for before, event in (([], 0), (keyed(0), 1), (woken(0), 2), (woken(0) + keyed(0), 3), (woken(0) * 4, 8)):
            for x in range(12):
                self.check(before, [(sleep(0, x), [1, 8, int(x == event)])])

    def test_on_large_numbers(self):
        for x in (MOST, MOST - 1, 2 ** 32, 2 ** 31, 2 ** 16, 256):
            self.check([], [(sleep(0, x), [1, 8, 0])])
            self.check(keyed(0), [(sleep(0, x), [1, 8, 0]), (sleep(0, x - x % 2 + 1), [1, 8, 0])])

    def test_has_no_gap(self):
        self.check([], [(sleep(0, 0), [1, 8, 1]), (go(0), [-9]), (sleep(0, 1), [1, 8, 0]), (go(0), [-9])])

    def test_changes_nothing(self):
        told = run(keyed(0) + [board(), sleep(1, 1), sleep(2, 0), sleep(3, MOST), board()])
        self.assertEqual(told[-1], told[2])

    def test_beside_calls_at_their_gaps(self):
        self.check([key(1), wake(2), wake(3)], [
            (sleep(0, 0), [1, 8, 1]), (go(1), [1, 7, 0, 1]), (sleep(0, 0), [1, 8, 0]), (sleep(0, 1), [1, 8, 1]),
        ])

    def test_an_event_does_not_come_back(self):
        rows = []
        for turn in range(20):
            rows += [(key(0), [0]), (go(0), [1, 7, 0, 2 * turn + 1]), (sleep(1, 2 * turn + 1), [1, 8, 1])]
            rows += [(wake(2), [0]), (go(2), [1, 9, 1]), (sleep(1, 2 * turn + 1), [1, 8, 0])]
            rows += [(sleep(1, 2 * turn), [1, 8, 0]), (sleep(1, 2 * turn + 2), [1, 8, 1])]
        self.check([], rows)


if __name__ == "__main__":
    unittest.main()

import unittest

from lines import GAP, LineTest, board, go, gone, key, keyed, offer, offered, run, sleep, taken, wake, woken


class WakeTest(LineTest):
    def test_even_event(self):
        self.check([], [(wake(0), GAP), (go(0), [1, 9, 0]), (go(0), [-9])])
        for turns in range(5):
            self.check(woken(0) * turns, [(wake(1), GAP), (go(1), [1, 9, 0]), (sleep(1, 2 * turns + 2), [1, 8, 1])])

    def test_odd_event(self):
        self.check(keyed(0), [(wake(1), GAP), (go(1), [1, 9, 1]), (sleep(1, 2), [1, 8, 1])])
        for turns in range(5):
            before = woken(0) * turns + keyed(0)
            self.check(before, [(wake(1), GAP), (go(1), [1, 9, 1]), (sleep(1, 2 * turns + 2), [1, 8, 1])])

    def test_the_second_wakes_nobody(self):
        self.check(keyed(0) + woken(1), [(wake(2), GAP), (go(2), [1, 9, 0]), (sleep(0, 4), [1, 8, 1])])

    def test_nothing_is_written_ahead_of_the_gap(self):
        for before, event in (([], 0), (keyed(0), 1), (woken(0), 2)):
            self.assertEqual(self.event(before + [wake(1)]), event)

    def test_what_is_written(self):
        self.assertEqual(self.event(woken(0)), 2)
        self.assertEqual(self.event(keyed(0) + woken(0)), 2)
        self.assertEqual(self.event(keyed(0) + woken(0) * 2), 4)
        self.assertEqual(self.event(woken(0) + keyed(0) + woken(0)), 4)

    def test_disturbed_by_what(self):
        """The event is even or odd ahead of the gap, and a key or a wake goes on in it."""
        self.check([wake(1)] + woken(2), [(go(1), GAP), (go(1), [1, 9, 0]), (sleep(0, 4), [1, 8, 1])])
        self.check([wake(1)] + keyed(2), [(go(1), GAP), (go(1), [1, 9, 1]), (sleep(0, 2), [1, 8, 1])])
        self.check(keyed(0) + [wake(1)] + woken(2), [(go(1), GAP), (go(1), [1, 9, 0]), (sleep(0, 4), [1, 8, 1])])
        self.check(keyed(0) + [wake(1)] + woken(2) + keyed(3), [
            (go(1), GAP), (go(1), [1, 9, 1]), (sleep(0, 4), [1, 8, 1]),
        ])

    def test_not_disturbed_by_what_leaves_the_event(self):
        self.check(keyed(0) + [wake(1)] + keyed(2), [(go(1), [1, 9, 1])])
        self.check([wake(1), wake(2), key(3), sleep(0, 0)], [(go(1), [1, 9, 0])])
        self.check([wake(1)] + offered(0, 2) + taken(0) + [wake(2), gone(2)], [(go(1), [1, 9, 0])])

    def test_a_failed_try_writes_nothing(self):
        self.assertEqual(self.event([wake(1)] + keyed(2) + [go(1)]), 1)
        self.assertEqual(self.event([wake(1)] + woken(2) + [go(1)]), 2)

    def test_disturbed_once_and_twice(self):
        for times in (1, 2):
            rows = []
            for turn in range(times):
                rows += [(wake(2), GAP), (go(2), [1, 9, 0]), (go(1), GAP)]
            self.check([wake(1)], rows + [(go(1), [1, 9, 0]), (sleep(0, 2 * times + 2), [1, 8, 1]), (go(1), [-9])])

    def test_disturbed_twice_and_the_third_try_finds_it_odd(self):
        self.check([wake(1)], [
            (wake(2), GAP), (go(2), [1, 9, 0]), (go(1), GAP), (key(2), GAP), (go(2), [1, 7, 0, 3]), (go(1), GAP),
            (go(1), [1, 9, 1]), (sleep(0, 4), [1, 8, 1]),
        ])

    def test_disturbed_three_times(self):
        self.check([wake(1)] + woken(2), [
            (go(1), GAP), (key(2), GAP), (go(2), [1, 7, 0, 3]),
            (go(1), GAP), (wake(2), GAP), (go(2), [1, 9, 1]),
            (go(1), [1, 9, -2]), (go(1), [-9]), (sleep(0, 4), [1, 8, 1]),
            (wake(1), GAP), (go(1), [1, 9, 0]), (sleep(0, 6), [1, 8, 1]),
        ])

    def test_disturbed_three_times_at_an_odd_event(self):
        self.check(keyed(0) + [wake(1)] + woken(2) + keyed(2), [
            (go(1), GAP), (wake(2), GAP), (go(2), [1, 9, 1]), (key(2), GAP), (go(2), [1, 7, 0, 5]),
            (go(1), GAP), (wake(2), GAP), (go(2), [1, 9, 1]), (key(2), GAP), (go(2), [1, 7, 0, 7]),
            (go(1), [1, 9, -2]), (sleep(0, 7), [1, 8, 1]),
        ])

    def test_many_changes_in_one_gap_are_one_fail(self):
        self.check([wake(1)] + woken(2) * 9 + keyed(2), [(go(1), GAP), (go(1), [1, 9, 1])])

    def test_the_fails_of_one_call_do_not_count_for_the_next(self):
        rows = []
        for turn in range(6):
            rows += [(wake(1), GAP), (wake(2), GAP), (go(2), [1, 9, 0]), (go(1), GAP), (go(1), [1, 9, 0])]
        self.check([], rows)

    def test_four_wakes_beside_one_another(self):
        self.check([wake(p) for p in range(4)], [
            (go(0), [1, 9, 0]), (go(1), GAP), (go(2), GAP), (go(3), GAP),
            (go(1), [1, 9, 0]), (go(2), GAP), (go(3), GAP),
            (go(2), [1, 9, 0]), (go(3), [1, 9, -2]), (sleep(0, 6), [1, 8, 1]),
        ])

    def test_one_of_many_wakes_all(self):
        self.check(keyed(0) + [wake(p) for p in (1, 2, 3)], [
            (go(2), [1, 9, 1]), (go(1), GAP), (go(3), GAP), (go(1), [1, 9, 0]), (go(3), GAP), (go(3), [1, 9, 0]),
        ])

    def test_gone_at_each_gap(self):
        before = [wake(1)]
        for tries in range(3):
            self.check(before, [(gone(1), [2]), (go(1), [-9]), (sleep(1, 2 * tries), [1, 8, 1])])
            before = before + woken(2) + [go(1)]

    def test_the_slots_stay(self):
        before = offered(0, 3, 4, [5]) + taken(1) + [offer(2, 1), go(2)]
        told = run(before + [board(), wake(0), go(0), board()])
        self.assertEqual(told[-1][1], 2)
        self.assertEqual(told[-1][2:], told[len(before)][2:])


if __name__ == "__main__":
    unittest.main()

"""go: in each call at each of its gaps."""

import unittest

from lines import GAP, LineTest, SCENES, board, go, key, offer, offered, run, take, taken, wake


class GoTest(LineTest):
    def test_each_call_goes_on_from_gap_to_gap_to_its_end(self):
        for name, (before, call, in_gaps, end) in SCENES.items():
            with self.subTest(name):
                calls = before + [call]
                for others in in_gaps:
                    told = run(calls + [go(2)])
                    self.assertEqual(told[len(calls) - 1], GAP)
                    calls = calls + others + [go(2)]
                self.assertEqual(run(calls)[-1], end)

    def test_behind_its_end_a_call_does_not_go_on(self):
        for name, (before, call, in_gaps, end) in SCENES.items():
            with self.subTest(name):
                calls = before + [call]
                for others in in_gaps:
                    calls = calls + others + [go(2)]
                told = run(calls + [board(), go(2), go(2), board()])
                self.assertEqual(told[-3:-1], [[-9], [-9]])
                self.assertEqual(told[-1], told[-4])

    def test_only_the_party_that_is_told_goes_on(self):
        self.check([key(0), wake(1), key(2), wake(3)], [
            (go(2), [1, 7, 0, 1]), (go(2), [-9]), (go(1), GAP), (go(0), [1, 7, 0, 1]), (go(1), [1, 9, 1]),
            (go(1), [-9]), (go(3), GAP), (go(0), [-9]), (go(3), [1, 9, 0]),
        ])

    def test_each_party_has_its_own_call(self):
        before = offered(0, 2, 7, [5]) + taken(1)
        self.check(before + [take(0), wake(1), key(2), offer(3, 1)], [
            (go(3), GAP), (go(2), [1, 7, 0, 1]), (go(3), GAP), (go(0), [1, 1, 0, 0, 1, 7, 5]),
            (go(1), GAP), (go(3), [1, 0, 0, 1]), (go(1), [1, 9, 1]),
        ])

    def test_a_party_in_none(self):
        self.check([], [(go(p), [-9]) for p in range(4)])
        for name, (before, call, in_gaps, end) in SCENES.items():
            with self.subTest(name):
                self.check(before + [call], [(go(3), [-9]), (go(4), [-1])])


if __name__ == "__main__":
    unittest.main()

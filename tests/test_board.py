"""board: what is told behind each kind of call and at each of its gaps."""

import unittest

from lines import LineTest, SCENES, again, board, clear, done, go, gone, key, look, offer, run, sleep, stop, take, wake

MOST = 2 ** 53 - 1


def slot(state=(0, 0), giving=(0, 0, 0), slices=0, kind=0, stamp=0, marks=()):
    row = [*state, *giving, slices, kind]
    for j in range(4):
        row += [stamp] + [int(8 * j + at in marks) for at in range(8)]
    return row


EMPTY = slot()


class BoardTest(LineTest):
    def story(self, steps):
        """Behind each call the board is as the row beside it tells; where the row is None, as it was before."""
        calls = [call for step in steps for call in (step[0], board())]
        told = run(calls)
        for place, step in enumerate(steps):
            before = told[2 * place - 1] if place else [3, 0] + EMPTY + EMPTY
            expected = before if step[1] is None else [3] + step[1]
            self.assertEqual(told[2 * place + 1], expected, f"step {place}: {step[0]}")

    def test_of_a_new_line(self):
        self.check([], [(board(), [3] + [0] * 87), (board(), [3] + [0] * 87)])

    def test_offer(self):
        laid = slot((0, 1), (0, 0, 0), 9, MOST)
        both = slot((0, 2), (0, 0, 0), 9, MOST)
        self.story([
            (offer(0, 9, MOST, [1, 2, 3, MOST]), None), (go(0), [0] + slot((0, 1)) + EMPTY),
            (go(0), [0] + laid + EMPTY), (go(0), [0] + both + EMPTY), (offer(3, 32, 5), None), (go(3), [0] + both + slot((0, 1))),
            (go(3), [0] + both + slot((0, 1), (0, 0, 0), 32, 5)), (go(3), [0] + both + slot((0, 2), (0, 0, 0), 32, 5)),
            (offer(1, 1), None), (offer(1, 0), None), (offer(1, 33), None),
        ])

    def test_take_again_done_look_clear(self):
        def first(given, marks=(), phase=2):
            return slot((0, phase), (0, given, 0), 2, 7, 0, marks)

        last = slot((1, 0), (0, 2, 0), 2, 7, 0, (0, 1))
        relaid = slot((1, 1), (1, 0, 0), 3, 8, 1)
        self.story([
            (offer(0, 2, 7, [5]), None), (go(0), [0] + slot((0, 1)) + EMPTY), (go(0), [0] + first(0, (), 1) + EMPTY),
            (go(0), [0] + first(0) + EMPTY),
            (take(1), None), (go(1), [0] + first(1) + EMPTY), (take(2), None), (go(2), [0] + first(2) + EMPTY),
            (take(3), None), (again(3, 0), None), (again(3, 1), None), (look(3, 0), None),
            (done(1, 0, 1), None), (go(1), [0] + first(2, (1,)) + EMPTY), (done(1, 0, 1), None), (done(1, 0, 2), None),
            (done(2, 0, 0), None), (go(2), [0] + first(2, (0, 1)) + EMPTY), (look(3, 0), None), (again(0, 0), None),
            (go(3), [0] + first(2, (0, 1), 4) + EMPTY), (go(2), None), (look(3, 0), None), (take(0), None),
            (clear(0, 0), None), (go(0), [0] + last + EMPTY), (clear(0, 0), None), (look(0, 0), None),
            (offer(0, 3, 8), None), (go(0), [0] + slot((1, 1), (0, 2, 0), 2, 7, 0, (0, 1)) + EMPTY),
            (go(0), [0] + relaid + EMPTY), (go(0), [0] + slot((1, 2), (1, 0, 0), 3, 8, 1) + EMPTY),
        ])

    def test_marks_stand_in_their_words(self):
        before = [offer(0, 32), go(0), go(0), go(0)]
        for k in (0, 1, 7, 8, 15, 16, 23, 24, 30, 31):
            told = run(before + [done(1, 0, k), go(1), board()])[-1]
            self.assertEqual(told, [3, 0] + slot((0, 2), (0, 0, 0), 32, 0, 0, (k,)) + EMPTY)

    def test_stop(self):
        self.story([
            (offer(0, 2), None), (go(0), [0] + slot((0, 1)) + EMPTY), (go(0), [0] + slot((0, 1), (0, 0, 0), 2) + EMPTY),
            (go(0), [0] + slot((0, 2), (0, 0, 0), 2) + EMPTY),
            (stop(1, 0), None), (go(1), [0] + slot((0, 2), (0, 0, 1), 2) + EMPTY),
            (stop(2, 0), None), (take(2), None), (go(1), [0] + slot((0, 4), (0, 0, 1), 2) + EMPTY), (stop(1, 0), None),
            (clear(1, 0), None), (go(1), [0] + slot((1, 0), (0, 0, 1), 2) + EMPTY),
        ])

    def test_key_sleep_wake(self):
        def event(number):
            return [number] + EMPTY + EMPTY

        self.story([
            (key(0), None), (go(0), event(1)), (sleep(0, 1), None), (sleep(0, 2), None), (key(1), None), (go(1), None),
            (wake(2), None), (wake(3), None), (go(2), event(2)), (go(3), None), (go(3), event(4)), (sleep(3, 4), None),
            (key(0), None), (gone(0), None), (wake(0), None), (gone(0), None), (key(3), None), (go(3), event(5)),
        ])

    def test_refused(self):
        self.story([(key(4), None), (wake(MOST), None), (go(0), None), (gone(1), None), (offer(0, 1), None),
                    (offer(0, 1), None), (key(0), None), (go(4), None), (go(0), [0] + slot((0, 1)) + EMPTY)])

    def test_whatever_is_told_in_between_changes_nothing(self):
        for name, (before, call, in_gaps, end) in SCENES.items():
            with self.subTest(name):
                calls = before + [call]
                for others in in_gaps:
                    calls = calls + others + [go(2)]
                watched = [part for call in calls for part in (board(), board(), call)]
                self.assertEqual(run(watched)[2::3], run(calls))
                self.assertEqual(run(watched)[0::3], run(watched)[1::3])


if __name__ == "__main__":
    unittest.main()

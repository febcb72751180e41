"""What is handed in stays as it was, nothing is kept from one line to the next, and the kinds are the interface's."""

import unittest

from lines import again, board, called_done, cleared, done, finished, go, gone, key, keyed, look, offer, offered, sleep
from lines import stop, take, taken, wake, woken
from slicepool.board import answers

LINES = [
    offered(0, 2, 7, [5]) + taken(1, 2) + finished(1, 0, [0, 1]) + cleared(2, 0) + [board()],
    offered(0, 32, 1, [1, 2, 3, 4]) + taken(3, 9) + called_done(3, 0, [8, 0]) + [again(1, 0), look(2, 0), board()],
    offered(0, 3) + taken(1) + [stop(2, 0), take(1), done(3, 0, 0), go(2), go(3), go(3), go(1), board()],
    [offer(0, 1, 1, [9]), offer(1, 2, 2, [8]), go(1), go(0), go(0), go(1), board()],
    [take(4), go(0), offer(0, 0), take(3), board()],
    woken(0) + keyed(1) + [sleep(2, 3), sleep(2, 2), wake(3), key(0), gone(0), wake(1), go(1), go(3), board()],
]


def flat(line):
    return [number for call in line for number in call]


class Watched(list):
    """A list that does not let itself be changed, not for a while either."""

    def refuse(self, *given):
        raise AssertionError("what is handed in was changed")

    append = extend = insert = pop = remove = clear = sort = reverse = refuse
    __setitem__ = __delitem__ = __iadd__ = __imul__ = refuse


class PureTest(unittest.TestCase):
    def test_handed_in_stays(self):
        for line in LINES:
            calls = flat(line)
            kept = list(calls)
            answers(calls)
            self.assertEqual(calls, kept)
            self.assertEqual(answers(Watched(kept)), answers(kept))

    def test_a_second_run_answers_as_the_first(self):
        first = [answers(flat(line)) for line in LINES]
        self.assertEqual([answers(flat(line)) for line in LINES], first)
        self.assertEqual([answers(flat(line)) for line in reversed(LINES)], first[::-1])

    def test_answers_given_back_are_the_callers_own(self):
        for line in LINES:
            first = answers(flat(line))
            kept = list(first)
            first.clear()
            self.assertEqual(answers(flat(line)), kept)

    def test_kinds(self):
        for line in LINES:
            told = answers(flat(line))
            self.assertIs(type(told), list)
            self.assertEqual({type(number) for number in told}, {int})


if __name__ == "__main__":
    unittest.main()

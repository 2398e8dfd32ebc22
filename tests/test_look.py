import unittest

from helper import NOTHING, ask, heard, look, looked, message, send, sends, some_items, start, tick


def looks_after(calls):
    """What look answers after each of the calls."""
    spread = [part for call in calls for part in (call, look())]
    return ask(spread)[1::2]


class LookTest(unittest.TestCase):
    def test_after_each_of_the_others(self):
        steps = [
            (start(1, 2), (0, 0, 0)),
            (look(), (0, 0, 0)),
            (tick(), (0, 0, 0)),
            (send(1, 2, 3), (1, 1, 0)),
            (send(256, 2, 3), (1, 1, 0)),
            (send(1, 2, 3), (2, 2, 0)),
            (tick(), (2, 2, 0)),
            (heard(message(2, 1, 0, 1, some_items(4)), 3), (2, 2, 3)),
            (heard(message(2, 1, 1, 0, [])), (1, 2, 3)),
            (heard(message(2, 1, 3, 4, some_items(1, 4))), (1, 2, 4)),
            (heard(message(1, 2, 2, 5, some_items(1, 5))), (1, 2, 4)),
            (heard([]), (1, 2, 4)),
            (heard(message(2, 1, 2, 9, some_items(1, 9))), (0, 2, 4)),
            (tick(), (0, 2, 4)),
            (start(2, 2), (0, 2, 4)),
            (send(1, 2, 3), (1, 3, 4)),
            (start(300, 2), (1, 3, 4)),
            (start(2, 1), (0, 0, 0)),
        ]
        self.assertEqual(looks_after([call for call, _ in steps]), [looked(*counts) for _, counts in steps])

    def test_after_a_full_end_refuses(self):
        calls = [start(1, 2)] + sends(some_items(66))
        expected = [looked(0, 0, 0)] + [looked(min(n, 64), min(n, 64), 0) for n in range(1, 67)]
        self.assertEqual(looks_after(calls), expected)

    def test_it_changes_nothing(self):
        calls = [start(1, 2)] + sends(some_items(3)) + [heard(message(2, 1, 1, 1, some_items(2)))]
        self.assertEqual(ask(calls + [look()] * 5 + [tick()])[-1], ask(calls + [tick()])[-1])
        self.assertEqual(ask(calls + [look()] * 5)[-5:], [looked(2, 3, 2)] * 5)

    def test_a_start_tells_nothing(self):
        self.assertEqual(ask([start(1, 2)]), [NOTHING])


if __name__ == "__main__":
    unittest.main()

import unittest

from helper import (HIGH32, NOTHING, ask, heard, look, looked, message, offered, send, sends, sent, some_items,
                    start, tick, told)

REFUSED = [-22, 0]
WRONG = [
    (256, 1), (1, 256), (256, 257), (HIGH32, 1), (1, HIGH32), (HIGH32, HIGH32 - 1),
    (0, 0), (7, 7), (255, 255), (256, 256), (HIGH32, HIGH32), (257, 1), (1, 257),
]


class StartTest(unittest.TestCase):
    def test_answered_0(self):
        for me, other in [(1, 2), (0, 255), (255, 0), (254, 255), (0, 1)]:
            self.assertEqual(ask([start(me, other), look()]), [NOTHING, looked(0, 0, 0)])

    def test_refused(self):
        for me, other in WRONG:
            self.assertEqual(ask([start(me, other)]), [REFUSED])

    def test_several_refused_ahead_of_the_first(self):
        calls = [start(me, other) for me, other in WRONG] + [start(3, 4), look(), send(1, 2, 3), tick()]
        packet = message(3, 4, 0, 1, [(1, 2, 3)])
        self.assertEqual(ask(calls), [REFUSED] * len(WRONG) + [NOTHING, looked(0, 0, 0), NOTHING, told(sent(packet))])

    def test_a_list_with_refused_ones_alone(self):
        self.assertEqual(ask([start(0, 0)] * 5), [REFUSED] * 5)

    def test_refused_later_changes_nothing(self):
        mine = some_items(20)
        theirs = some_items(3, 90)
        calls = [start(3, 4)] + sends(mine) + [heard(message(4, 3, 2, 1, theirs))]
        for me, other in WRONG:
            rows = ask(calls + [start(me, other), look(), tick(), heard(message(4, 3, 5, 4, theirs[:1]))])
            self.assertEqual(rows[-4], REFUSED)
            self.assertEqual(rows[-3], looked(18, 20, 3))
            self.assertEqual(rows[-2], told(sent(message(3, 4, 3, 3, mine[2:18]))))
            self.assertEqual(rows[-1], told(offered(1, theirs[0]), sent(message(3, 4, 4, 0, []))))

    def test_again_begins_anew(self):
        mine = some_items(64)
        theirs = some_items(16, 90)
        calls = [start(3, 4)] + sends(mine) + [heard(message(4, 3, 10, 1, theirs)), look()]
        rows = ask(calls + [start(3, 4), look(), tick()] + sends(mine) + [send(1, 1, 1), tick(), look()])
        rows = rows[len(calls) - 1:]
        self.assertEqual(rows[:4], [looked(54, 64, 16), NOTHING, looked(0, 0, 0), NOTHING])
        self.assertEqual(rows[4:68], [NOTHING] * 64)
        self.assertEqual(rows[68:], [[-11, 0], told(sent(message(3, 4, 0, 1, mine[:16]))), looked(64, 64, 0)])

    def test_again_offers_the_first_item_again(self):
        item = (9, 8, 7)
        row = message(4, 3, 0, 1, [item])
        answer = told(offered(1, item), sent(message(3, 4, 1, 0, [])))
        self.assertEqual(ask([start(3, 4), heard(row), start(3, 4), heard(row)]), [NOTHING, answer, NOTHING, answer])

    def test_again_with_others(self):
        item = (9, 8, 7)
        calls = [start(3, 4), start(5, 6), heard(message(4, 3, 0, 1, [item])), heard(message(6, 5, 0, 1, [item]))]
        self.assertEqual(ask(calls)[2:], [[-71, 0], told(offered(1, item), sent(message(5, 6, 1, 0, [])))])

    def test_again_with_the_two_changed_about(self):
        item = (9, 8, 7)
        calls = [start(3, 4), start(4, 3), heard(message(4, 3, 0, 1, [item])), heard(message(3, 4, 0, 1, [item]))]
        self.assertEqual(ask(calls)[2:], [[-71, 0], told(offered(1, item), sent(message(4, 3, 1, 0, [])))])


if __name__ == "__main__":
    unittest.main()

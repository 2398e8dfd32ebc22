import unittest

from helper import NOTHING, ask, heard, look, looked, message, sends, sent, some_items, start, tick, told


class TickTest(unittest.TestCase):
    def test_nothing_waiting(self):
        self.assertEqual(ask([start(1, 2), tick(), tick(), look()])[1:], [NOTHING, NOTHING, looked(0, 0, 0)])

    def test_nothing_waiting_where_some_were_got(self):
        rows = ask([start(1, 2), heard(message(2, 1, 0, 1, some_items(2))), tick()])
        self.assertEqual(rows[-1], NOTHING)

    def test_some_waiting(self):
        for count in (1, 2, 15, 16, 17, 63, 64):
            items = some_items(count)
            packet = message(1, 2, 0, 1, items[:16])
            rows = ask([start(1, 2)] + sends(items) + [tick(), look(), tick()])
            self.assertEqual(rows[count + 1:], [told(sent(packet)), looked(count, count, 0), told(sent(packet))])
            self.assertEqual(len(packet), 16 + 13 * min(count, 16))

    def test_the_first_number_after_some_were_acknowledged(self):
        items = some_items(64)
        for count in (1, 15, 16, 17, 47, 48, 49, 63):
            rows = ask([start(1, 2)] + sends(items) + [heard(message(2, 1, count, 0, [])), tick(), look()])
            packet = message(1, 2, 0, count + 1, items[count:count + 16])
            self.assertEqual(rows[65:], [NOTHING, told(sent(packet)), looked(64 - count, 64, 0)])

    def test_all_acknowledged(self):
        items = some_items(64)
        rows = ask([start(1, 2)] + sends(items) + [heard(message(2, 1, 64, 0, [])), tick(), look()])
        self.assertEqual(rows[65:], [NOTHING, NOTHING, looked(0, 64, 0)])

    def test_the_first_number_far_on(self):
        calls = [start(1, 2)]
        for turn in range(5):
            calls += sends(some_items(64, 64 * turn + 1)) + [heard(message(2, 1, 64 * (turn + 1), 0, []))]
        calls += sends(some_items(1, 321)) + [tick(), look()]
        self.assertEqual(ask(calls)[-2:], [told(sent(message(1, 2, 0, 321, some_items(1, 321)))), looked(1, 321, 0)])

    def test_it_bears_how_many_were_got(self):
        mine = some_items(1)
        calls = [start(1, 2)] + sends(mine) + [heard(message(2, 1, 0, 1, some_items(5)), 3), tick()]
        self.assertEqual(ask(calls)[-1], told(sent(message(1, 2, 3, 1, mine))))

    def test_got_above_255(self):
        mine = some_items(1)
        calls = [start(1, 2)] + sends(mine)
        calls += [heard(message(2, 1, 0, 16 * turn + 1, some_items(16))) for turn in range(17)] + [tick(), look()]
        self.assertEqual(ask(calls)[-2:], [told(sent(message(1, 2, 272, 1, mine))), looked(1, 1, 272)])

    def test_from_and_to_at_their_edges(self):
        mine = some_items(1)
        for me, other in [(0, 255), (255, 0)]:
            rows = ask([start(me, other)] + sends(mine) + [tick()])
            self.assertEqual(rows[-1], told(sent(message(me, other, 0, 1, mine))))


if __name__ == "__main__":
    unittest.main()

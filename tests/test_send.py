import unittest

from helper import (HIGH32, HIGH64, NOTHING, ask, heard, look, looked, message, send, sends, sent, some_items, start,
                    tick, told)


class SendTest(unittest.TestCase):
    def test_answered_0_and_nothing_told(self):
        self.assertEqual(ask([start(1, 2), send(5, 6, 7), look()]), [NOTHING, NOTHING, looked(1, 1, 0)])

    def test_lowest_and_highest(self):
        for item in [(0, 0, 0), (255, HIGH32, HIGH64), (0, HIGH32, 0), (255, 0, HIGH64), (1, 256, 2 ** 32)]:
            rows = ask([start(1, 2), send(*item), tick()])
            self.assertEqual(rows[1:], [NOTHING, told(sent(message(1, 2, 0, 1, [item])))])

    def test_the_bytes_stand_low_first(self):
        row = ask([start(1, 2), send(0x11, 0x22334455, 0x66778899AABBCCDD), tick()])[-1][4:]
        self.assertEqual(row[:12], [1, 2, 1, 0, 0, 0, 0, 0, 1, 0, 0, 0])
        self.assertEqual(row[12:17], [0x11, 0x55, 0x44, 0x33, 0x22])
        self.assertEqual(row[17:25], [0xDD, 0xCC, 0xBB, 0xAA, 0x99, 0x88, 0x77, 0x66])
        self.assertEqual(len(row), 29)

    def test_kind_above_255(self):
        for kind in (256, 257, 512, HIGH32):
            rows = ask([start(1, 2), send(kind, 6, 7), look(), tick(), send(255, 6, 7), look()])
            self.assertEqual(rows[1:4], [[-22, 0], looked(0, 0, 0), NOTHING])
            self.assertEqual(rows[4:], [NOTHING, looked(1, 1, 0)])

    def test_the_65th(self):
        rows = ask([start(1, 2)] + sends(some_items(64)) + [send(0, 0, 0), look(), send(255, HIGH32, HIGH64), look()])
        self.assertEqual(rows[1:65], [NOTHING] * 64)
        self.assertEqual(rows[65:], [[-11, 0], looked(64, 64, 0), [-11, 0], looked(64, 64, 0)])

    def test_kind_is_refused_first_where_64_wait(self):
        rows = ask([start(1, 2)] + sends(some_items(64)) + [send(256, 0, 0), send(HIGH32, 0, 0), send(255, 0, 0)])
        self.assertEqual(rows[65:], [[-22, 0], [-22, 0], [-11, 0]])

    def test_room_again_after_some_were_acknowledged(self):
        items = some_items(64)
        more = some_items(3, 65)
        calls = [start(1, 2)] + sends(items) + [heard(message(2, 1, 2, 0, []))] + sends(more) + [look(), tick()]
        rows = ask(calls)
        self.assertEqual(rows[66:], [NOTHING, NOTHING, [-11, 0], looked(64, 66, 0),
                                     told(sent(message(1, 2, 0, 3, items[2:18])))])

    def test_a_refused_one_never_goes_out(self):
        items = some_items(64)
        calls = [start(1, 2)] + sends(items) + [send(1, 1, 1), send(300, 1, 1), heard(message(2, 1, 63, 0, [])), tick()]
        self.assertEqual(ask(calls)[-1], told(sent(message(1, 2, 0, 64, items[63:]))))

    def test_equal_items_are_each_sent(self):
        rows = ask([start(1, 2), send(1, 1, 1), send(1, 1, 1), look(), tick()])
        self.assertEqual(rows[3:], [looked(2, 2, 0), told(sent(message(1, 2, 0, 1, [(1, 1, 1)] * 2)))])


if __name__ == "__main__":
    unittest.main()

import random
import unittest

from helper import HIGH32, Asked, heard, some_items, tick


class Net:
    """Two ends and the messages between them that were sent, as they were, and may come at any time."""

    def __init__(self, here, there):
        self.ends = [Asked(here, there), Asked(there, here)]
        self.sent = [[], []]
        self.on_the_way = [[], []]

    def send(self, side, item):
        if self.ends[side].send(item) == 0:
            self.sent[side].append(item)

    def fill(self, side):
        """Send till 64 wait."""
        count = 64 - self.ends[side].counts()[0]
        for item in some_items(count, len(self.sent[side]) + 1):
            self.send(side, item)

    def tick(self, side):
        self.on_the_way[1 - side] += self.ends[side].messages(tick())

    def come(self, side, rank, takes, keep):
        """A message comes at a side; kept on the way it may come once more."""
        row = self.on_the_way[side][rank] if keep else self.on_the_way[side].pop(rank)
        self.on_the_way[1 - side] += self.ends[side].messages(heard(row, takes))

    def all_come(self):
        while self.on_the_way[0] or self.on_the_way[1]:
            side = 0 if self.on_the_way[0] else 1
            self.come(side, 0, HIGH32, False)

    def room(self):
        return min(end.room() for end in self.ends)


class BetweenTwoEndsTest(unittest.TestCase):
    def hold(self, net):
        for side in (0, 1):
            got = net.ends[1 - side].items_got
            self.assertEqual(got, net.sent[side][:len(got)])
            waiting, sent_count, _ = net.ends[side].counts()
            self.assertEqual(sent_count, len(net.sent[side]))
            self.assertEqual(net.ends[1 - side].counts()[2], len(got))
            self.assertLessEqual(sent_count - waiting, len(got))
            if waiting == 0:
                self.assertEqual(got, net.sent[side])

    def step(self, net, chance):
        side = chance.randrange(2)
        what = chance.random()
        way = net.on_the_way[side]
        if what < 0.3:
            net.send(side, (chance.randrange(256), chance.randrange(2 ** 32), chance.randrange(2 ** 64)))
        elif what < 0.45:
            net.tick(side)
        elif what < 0.9 and way:
            takes = chance.choice([0, 1, 2, 3, 16, HIGH32])
            net.come(side, chance.randrange(len(way)), takes, chance.random() < 0.4)
        elif way:
            way.pop(chance.randrange(len(way)))

    def wild(self, seed, steps, reserve):
        chance = random.Random(seed)
        net = Net(seed % 200, 255)
        for _ in range(steps):
            if net.room() < reserve:
                break
            self.step(net, chance)
            self.hold(net)
        return net

    def test_a_net_that_loses_doubles_delays_and_changes_the_order(self):
        for seed in range(12):
            net = self.wild(seed, 150, 300)
            self.assertGreater(sum(len(end.items_got) for end in net.ends), 0)

    def four_ticks(self, net, sides):
        for _ in range(4):
            for side in sides:
                net.tick(side)
            net.all_come()
            self.hold(net)
        for side in sides:
            self.assertEqual(net.ends[1 - side].items_got, net.sent[side])
            self.assertEqual(net.ends[side].counts()[0], 0)

    def test_four_ticks_after_a_wild_time(self):
        for seed in range(100, 106):
            net = self.wild(seed, 90, 5000)
            net.on_the_way = [[], []]
            net.fill(0)
            net.fill(1)
            self.four_ticks(net, [0, 1])

    def test_four_ticks_with_old_messages_coming_late(self):
        net = self.wild(300, 60, 8000)
        net.fill(0)
        self.four_ticks(net, [0])

    def test_four_ticks_get_64_over_and_three_do_not(self):
        net = Net(1, 2)
        net.fill(0)
        for turn in range(1, 4):
            net.tick(0)
            net.all_come()
            self.assertEqual(net.ends[1].items_got, net.sent[0][:16 * turn])
            self.assertEqual(net.ends[0].counts(), [64 - 16 * turn, 64, 0])
        net.tick(0)
        net.all_come()
        self.assertEqual(net.ends[1].items_got, net.sent[0])
        self.assertEqual(net.ends[0].counts(), [0, 64, 0])
        self.assertEqual(net.ends[1].counts(), [0, 0, 64])

    def test_four_ticks_both_ways_at_once(self):
        net = Net(9, 8)
        net.fill(0)
        net.fill(1)
        self.four_ticks(net, [0, 1])

    def test_a_bare_packet_lost(self):
        net = Net(1, 2)
        net.send(0, (1, 2, 3))
        net.tick(0)
        net.come(1, 0, 1, False)
        net.on_the_way[0].clear()
        self.assertEqual(net.ends[0].counts(), [1, 1, 0])
        net.tick(0)
        net.all_come()
        self.assertEqual(net.ends[1].items_got, [(1, 2, 3)])
        self.assertEqual(net.ends[0].counts(), [0, 1, 0])

    def test_packets_that_come_in_another_order(self):
        net = Net(1, 2)
        net.send(0, (1, 1, 1))
        net.tick(0)
        net.send(0, (2, 2, 2))
        net.tick(0)
        net.come(1, 1, HIGH32, False)
        net.come(1, 0, HIGH32, True)
        net.come(1, 0, HIGH32, False)
        self.assertEqual(net.ends[1].items_got, [(1, 1, 1), (2, 2, 2)])
        net.come(0, 2, HIGH32, True)
        net.come(0, 0, HIGH32, False)
        self.assertEqual(net.ends[0].counts(), [0, 2, 0])


if __name__ == "__main__":
    unittest.main()

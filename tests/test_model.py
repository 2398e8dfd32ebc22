"""The program held against a second telling of the document, over lists of calls drawn by a fixed seed."""

import random
import struct
import unittest

from helper import (HIGH32, HIGH64, ask, crc32c, heard, joined, look, looked, message, offered, send, sent, start, tick,
                    told, with_check)


class Model:
    """An end that keeps all it ever sent, and counts."""

    def start(self, me, other):
        if not (0 <= me <= 255 and 0 <= other <= 255 and me != other):
            return [-22, 0]
        self.names = (me, other)
        self.all_sent = []
        self.acknowledged = 0
        self.got = 0
        return [0, 0]

    def send(self, kind, a, b):
        if kind >= 256:
            return [-22, 0]
        if len(self.all_sent) - self.acknowledged == 64:
            return [-11, 0]
        self.all_sent.append((kind, a, b))
        return [0, 0]

    def read(self, row):
        """How many the other has got, the first number, the items; None if it isn't right."""
        size, rest = divmod(len(row) - 16, 13)
        if rest or not 0 <= size <= 16:
            return None
        data = bytes(row)
        sender, receiver, count, zero, got, first = struct.unpack_from("<BBBBII", data)
        if (receiver, sender) != self.names or count != size or zero or bool(first) != bool(count):
            return None
        if struct.unpack("<I", data[-4:])[0] != crc32c(row[:-4]):
            return None
        return got, first, list(struct.iter_unpack("<BIQ", data[12:-4]))

    def heard(self, takes, row):
        found = self.read(row)
        if found is None:
            return [-71, 0]
        got, first, items = found
        if got <= len(self.all_sent):
            self.acknowledged = max(self.acknowledged, got)
        things = []
        if first <= self.got + 1:
            fresh = items[self.got + 1 - first:] if first else []
            taken = min(takes, len(fresh))
            things = [offered(1, item) for item in fresh[:taken]]
            things += [offered(0, item) for item in fresh[taken:taken + 1]]
            self.got += taken
        if items:
            things.append(sent(message(*self.names, self.got, 0, [])))
        return told(*things)

    def tick(self):
        items = self.all_sent[self.acknowledged:][:16]
        if not items:
            return [0, 0]
        return told(sent(message(*self.names, self.got, self.acknowledged + 1, items)))

    def look(self):
        return looked(len(self.all_sent) - self.acknowledged, len(self.all_sent), self.got)


class Drawn:
    """Calls drawn by chance, near to where an end stands."""

    def __init__(self, seed):
        self.chance = random.Random(seed)
        self.model = Model()
        self.calls = []
        self.expected = []

    def number(self, highest):
        chance = self.chance
        return chance.choice([0, 1, 255, 256, highest, chance.randrange(highest + 1), chance.randrange(300)])

    def item(self):
        return (self.chance.randrange(256), self.number(HIGH32), self.number(HIGH64))

    def put(self, call, answer):
        self.calls.append(call)
        self.expected.append(answer)

    def start(self):
        me, other = self.number(HIGH32), self.number(HIGH32)
        self.put(start(me, other), self.model.start(me, other))

    def send(self):
        kind = self.chance.choice([self.chance.randrange(256)] * 9 + [self.number(HIGH32)])
        item = (kind,) + self.item()[1:]
        self.put(send(*item), self.model.send(*item))

    def row(self):
        chance = self.chance
        model = self.model
        me, other = model.names
        count = chance.choice([0, 0, 1, 2, 3, 15, 16, 17])
        near = max(0, model.got + 1 + chance.choice([0, 0, 0, -1, -2, -5, -16, 1, 2]))
        first = near if count else chance.choice([0] * 9 + [near])
        first = chance.choice([first] * 20 + [self.number(HIGH32)])
        low = model.acknowledged
        got = chance.choice([low, low + 1, low + 2, len(model.all_sent), len(model.all_sent) + 1, max(0, low - 1)])
        got = chance.choice([got] * 20 + [self.number(HIGH32)])
        return self.spoiled(message(other, me, got, first, [self.item() for _ in range(count)]))

    def spoiled(self, row):
        """Now and then with a byte changed, the check made right again or not, or of another length."""
        chance = self.chance
        what = chance.randrange(20)
        if what < 2:
            place = chance.randrange(12)
            row[place] = chance.choice([row[place] ^ 1, chance.randrange(256)])
            return with_check(row[:-4]) if what else row
        if what == 2:
            row = row[:chance.randrange(len(row))]
        if what == 3:
            row = row + [chance.randrange(256) for _ in range(chance.randrange(1, 30))]
        return row

    def heard(self):
        row = self.row()
        takes = self.chance.choice([0, 1, 2, 3, 15, 16, 17, self.number(HIGH32)])
        self.put(heard(row, takes), self.model.heard(takes, row))

    def draw(self, count):
        while not self.expected or self.expected[-1] != [0, 0]:
            self.start()
        ways = [self.send] * 12 + [self.heard] * 8
        while len(self.calls) < count and len(joined(self.calls)) < 15500:
            what = self.chance.randrange(24)
            if what < len(ways):
                ways[what]()
            elif what == 20 and self.chance.randrange(6) == 0:
                self.start()
            elif what < 22:
                self.put(tick(), self.model.tick())
            else:
                self.put(look(), self.model.look())


class ModelTest(unittest.TestCase):
    def test_drawn_lists(self):
        seen = {}
        for seed in range(60):
            drawn = Drawn(seed)
            drawn.draw(40 + 4 * seed)
            given = ask(drawn.calls)
            for place, answer in enumerate(given):
                self.assertEqual(answer, drawn.expected[place], (seed, place, drawn.calls[place]))
                seen[answer[0]] = seen.get(answer[0], 0) + 1
        self.assertEqual(sorted(seen), [-71, -22, -11, 0])


if __name__ == "__main__":
    unittest.main()

"""What the tests share: calls as numbers, messages as bytes, and an end that is asked call by call.

Nothing here is drawn from the program but `answers`, so that what it gives is held against other code.
"""

import struct

from uncutline.desk import answers

HIGH32 = 4294967295
HIGH64 = 18446744073709551615
NOTHING = [0, 0]


def turned(number, width):
    return int(format(number, "0%db" % width)[::-1], 2)


def make_table():
    table = []
    for byte in range(256):
        rest = byte << 24
        for _ in range(8):
            rest = (rest << 1) ^ (0x11EDC6F41 if rest >> 31 else 0)
        table.append(rest)
    return table


TABLE = make_table()
TURNED = [turned(byte, 8) for byte in range(256)]


def crc32c(row):
    """CRC-32C from the high bit, with bytes and rest turned about: not the way the program goes."""
    rest = HIGH32
    for byte in row:
        rest = ((rest << 8) & HIGH32) ^ TABLE[(rest >> 24) ^ TURNED[byte]]
    return turned(rest ^ HIGH32, 32)


def with_check(row):
    return list(row) + list(struct.pack("<I", crc32c(row)))


def message(sender, receiver, got, first, items, count=None, fourth=0):
    """A message; count and fourth may be told wrong, the check is right for what stands there."""
    number = len(items) if count is None else count
    row = struct.pack("<BBBBII", sender, receiver, number, fourth, got, first)
    for kind, a, b in items:
        row += struct.pack("<BIQ", kind, a, b)
    return with_check(list(row))


def start(me, other):
    return [0, me, other]


def send(kind, a, b):
    return [1, kind, a, b]


def heard(row, takes=HIGH32):
    return [2, takes, len(row)] + list(row)


def tick():
    return [3]


def look():
    return [4]


def sends(items):
    return [send(*item) for item in items]


def some_items(count, begin=1):
    """Items that differ from one another in each part."""
    return [((7 * n) % 256, 1000003 * n, (n << 40) + n) for n in range(begin, begin + count)]


def sent(row):
    return [0, len(row)] + list(row)


def offered(taken, item):
    return [1, taken] + list(item)


def told(*things):
    answer = [0, len(things)]
    for thing in things:
        answer += thing
    return answer


def looked(waiting, sent_count, got):
    return [0, 0, waiting, sent_count, got]


def joined(calls):
    return [number for call in calls for number in call]


def split(given):
    """The answers, one list each, from what `answers` gives back."""
    rows = []
    place = 0
    while place < len(given):
        length = given[place]
        row = given[place + 1:place + 1 + length]
        if len(row) != length:
            raise AssertionError("an answer is shorter than it tells")
        rows.append(row)
        place += 1 + length
    return rows


def ask(calls):
    rows = split(answers(joined(calls)))
    if len(rows) != len(calls):
        raise AssertionError("%d answers to %d calls" % (len(rows), len(calls)))
    return rows


def things_of(answer):
    """What an answer of heard or tick tells: ("sent", bytes) or ("offered", taken, item)."""
    found = []
    place = 2
    for _ in range(answer[1]):
        if answer[place] == 0:
            length = answer[place + 1]
            found.append(("sent", answer[place + 2:place + 2 + length]))
            place += 2 + length
        else:
            found.append(("offered", answer[place + 1], tuple(answer[place + 2:place + 5])))
            place += 5
    if place != len(answer):
        raise AssertionError("an answer has more than it tells")
    return found


class Asked:
    """One end that is asked call by call: all its calls so far are asked anew each time."""

    def __init__(self, me, other):
        self.calls = []
        self.items_got = []
        self.ask(start(me, other))

    def ask(self, call):
        self.calls.append(call)
        return ask(self.calls)[-1]

    def room(self):
        """How many numbers the list of calls can still hold."""
        return 16000 - sum(len(call) for call in self.calls)

    def send(self, item):
        return self.ask(send(*item))[0]

    def messages(self, call):
        """Ask a call; keep what it got, and give the messages that it sent."""
        answer = self.ask(call)
        found = things_of(answer)
        self.items_got += [thing[2] for thing in found if thing[0] == "offered" and thing[1] == 1]
        return [thing[1] for thing in found if thing[0] == "sent"]

    def counts(self):
        """How many wait, were sent, were got."""
        return ask(self.calls + [look()])[-1][2:]

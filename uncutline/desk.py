"""One end of a line between two machines: what is sent on it comes, each once, in order."""

REFUSED_VALUE = -22
REFUSED_FULL = -11
REFUSED_MESSAGE = -71

START = 0
SEND = 1
HEARD = 2
TICK = 3

HIGHEST_BYTE = 255
MOST_WAITING = 64
MOST_IN_MESSAGE = 16

# Where the parts of a message begin, and how many bytes they have.
COUNT_PLACE = 2
ZERO_PLACE = 3
GOT_PLACE = 4
FIRST_PLACE = 8
HEAD_LENGTH = 12
ITEM_LENGTH = 13
CHECK_LENGTH = 4

ALL_ONES = 0xFFFFFFFF
POLYNOMIAL = 0x82F63B78


def check_of(row):
    """Give the CRC-32C of a row of bytes."""
    rest = ALL_ONES
    for byte in row:
        rest = rest ^ byte
        for step in range(8):
            if (rest & 1) == 1:
                rest = (rest >> 1) ^ POLYNOMIAL
            else:
                rest = rest >> 1
    return rest ^ ALL_ONES


def bytes_of(number, length):
    """Give a number as so many bytes, the low one first."""
    row = []
    for step in range(length):
        row.append(number & 255)
        number = number >> 8
    return row


def number_at(row, place, length):
    """Give the number that so many bytes hold from a place on, the low one first."""
    number = 0
    for step in range(length):
        number = number + (row[place + step] << (8 * step))
    return number


def item_at(message, rank):
    """Give the item of a message, the first being 0, as its kind, a and b."""
    place = HEAD_LENGTH + ITEM_LENGTH * rank
    return (message[place], number_at(message, place + 1, 4), number_at(message, place + 5, 8))


def message_of(sender, receiver, got, first, items):
    """Give a message, byte by byte, with its check."""
    message = [sender, receiver, len(items), 0]
    message.extend(bytes_of(got, 4))
    message.extend(bytes_of(first, 4))
    for kind, a, b in items:
        message.append(kind)
        message.extend(bytes_of(a, 4))
        message.extend(bytes_of(b, 8))
    message.extend(bytes_of(check_of(message), CHECK_LENGTH))
    return message


def is_well_formed(message):
    """Tell whether a row of bytes is a message, whoever it is from or to."""
    # The parts can be read only from a row that is as long as a bare packet at least.
    if len(message) < HEAD_LENGTH + CHECK_LENGTH:
        return False
    count = message[COUNT_PLACE]
    if count > MOST_IN_MESSAGE or message[ZERO_PLACE] != 0:
        return False
    if len(message) != HEAD_LENGTH + ITEM_LENGTH * count + CHECK_LENGTH:
        return False
    first = number_at(message, FIRST_PLACE, 4)
    if (first == 0) != (count == 0):
        return False
    check_place = len(message) - CHECK_LENGTH
    return number_at(message, check_place, CHECK_LENGTH) == check_of(message[:check_place])


def told_message(message):
    """Give what is told where a message is sent."""
    told = [0, len(message)]
    told.extend(message)
    return told


def told_offer(taken, item):
    """Give what is told where an item is offered; taken is 1 or 0."""
    return [1, taken, item[0], item[1], item[2]]


def answer_with(things):
    """Give the answer 0 with the things that are told."""
    answer = [0, len(things)]
    for told in things:
        answer.extend(told)
    return answer


def refusal(number):
    """Give the answer of a call that changes and tells nothing."""
    return [number, 0]


class End:
    """What one end keeps; each call on it gives its answer as a list of numbers."""

    def __init__(self):
        self.me = 0
        self.other = 0
        self.waiting = []
        self.sent = 0
        self.got = 0

    def start(self, me, other):
        if me > HIGHEST_BYTE or other > HIGHEST_BYTE or me == other:
            return refusal(REFUSED_VALUE)
        self.me = me
        self.other = other
        self.waiting = []
        self.sent = 0
        self.got = 0
        return answer_with([])

    def send(self, kind, a, b):
        if kind > HIGHEST_BYTE:
            return refusal(REFUSED_VALUE)
        if len(self.waiting) >= MOST_WAITING:
            return refusal(REFUSED_FULL)
        self.waiting.append((kind, a, b))
        self.sent = self.sent + 1
        return answer_with([])

    def heard(self, message, takes):
        if not self.is_right(message):
            return refusal(REFUSED_MESSAGE)
        self.acknowledge(number_at(message, GOT_PLACE, 4))
        things = self.offer_from(message, takes)
        # Also where nothing was got: the bare packet that told of it before may be lost.
        if message[COUNT_PLACE] > 0:
            things.append(told_message(self.bare_packet()))
        return answer_with(things)

    def tick(self):
        if len(self.waiting) == 0:
            return answer_with([])
        return answer_with([told_message(self.packet())])

    def look(self):
        answer = answer_with([])
        answer.extend([len(self.waiting), self.sent, self.got])
        return answer

    def is_right(self, message):
        """Tell whether it is a message from the other to this end."""
        return is_well_formed(message) and message[0] == self.other and message[1] == self.me

    def acknowledged(self):
        """Give how many items were acknowledged: those sent that do not wait."""
        return self.sent - len(self.waiting)

    def acknowledge(self, number):
        """Let go of the items up to a number; an old number or one never sent changes nothing."""
        before = self.acknowledged()
        if before < number and number <= self.sent:
            self.waiting = self.waiting[number - before:]

    def offer_from(self, message, takes):
        """Offer the items of a message that come next, and give what is told of them."""
        things = []
        first = number_at(message, FIRST_PLACE, 4)
        left = takes
        for rank in range(message[COUNT_PLACE]):
            if first + rank == self.got + 1:
                item = item_at(message, rank)
                if left == 0:
                    things.append(told_offer(0, item))
                    break
                things.append(told_offer(1, item))
                left = left - 1
                self.got = self.got + 1
        return things

    def packet(self):
        """Give the message with the first items that wait; one waits at least."""
        items = self.waiting[:MOST_IN_MESSAGE]
        return message_of(self.me, self.other, self.got, self.acknowledged() + 1, items)

    def bare_packet(self):
        return message_of(self.me, self.other, self.got, 0, [])


def call_length(calls, place):
    """Give how many numbers the call has that begins at a place."""
    call = calls[place]
    if call == START:
        return 3
    if call == SEND:
        return 4
    if call == HEARD:
        return 3 + calls[place + 2]
    return 1


def answer_to(end, calls, place):
    """Make the call that begins at a place, and give its answer."""
    call = calls[place]
    if call == START:
        return end.start(calls[place + 1], calls[place + 2])
    if call == SEND:
        return end.send(calls[place + 1], calls[place + 2], calls[place + 3])
    if call == HEARD:
        message = calls[place + 3:place + call_length(calls, place)]
        return end.heard(message, calls[place + 1])
    if call == TICK:
        return end.tick()
    return end.look()


def answers(calls):
    """Make the calls on one new end, and give for each how long its answer is, and the answer."""
    end = End()
    given = []
    place = 0
    while place < len(calls):
        answer = answer_to(end, calls, place)
        given.append(len(answer))
        given.extend(answer)
        place = place + call_length(calls, place)
    return given

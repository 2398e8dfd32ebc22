import unittest

from helper import (HIGH32, HIGH64, NOTHING, ask, heard, look, looked, message, offered, sends, sent, some_items, start,
                    tick, told, with_check)

REFUSED = [-71, 0]
MINE = some_items(20)
THEIRS = some_items(40, 100)
# An end that has sent 20, of which 2 are acknowledged, and has got 3.
BEGUN = [start(1, 2)] + sends(MINE) + [heard(message(2, 1, 2, 1, THEIRS[:3]))]


def bare(got):
    return sent(message(1, 2, got, 0, []))


def after(calls):
    """The answers to calls on an end that has begun."""
    return ask(BEGUN + calls)[len(BEGUN):]


class NotRightTest(unittest.TestCase):
    def refuse(self, row, takes=HIGH32):
        """It's refused, and all is afterwards as it was."""
        rows = after([heard(row, takes), look(), tick(), heard(message(2, 1, 2, 4, THEIRS[3:4]))])
        self.assertEqual(rows, [REFUSED, looked(18, 20, 3), told(sent(message(1, 2, 3, 3, MINE[2:18]))),
                                told(offered(1, THEIRS[3]), bare(4))])

    def test_empty(self):
        self.refuse([])

    def test_each_length_up_to_500_of_zeros(self):
        for length in list(range(60)) + [223, 224, 225, 237, 499, 500]:
            self.refuse([0] * length)

    def test_too_short(self):
        whole = message(2, 1, 5, 4, THEIRS[3:5])
        for length in range(len(whole)):
            self.refuse(whole[:length])
            if length >= 4:
                self.refuse(with_check(whole[:length - 4]))

    def test_too_short_where_it_tells_no_items(self):
        for length in range(12):
            self.refuse(with_check(message(2, 1, 5, 0, [])[:length]))

    def test_too_long(self):
        for items, first in [([], 0), (THEIRS[3:4], 4), (THEIRS[3:19], 4)]:
            whole = message(2, 1, 5, first, items)
            for more in (1, 2, 4, 12, 13, 14, 26, 500 - len(whole)):
                self.refuse(whole + [0] * more)
                if len(whole) + more <= 500:
                    self.refuse(with_check(whole[:-4] + [0] * more))

    def test_more_than_16_items(self):
        items = some_items(37, 103)
        for count in (17, 18, 32, 37):
            self.refuse(message(2, 1, 5, 4, items[:count]))

    def test_a_number_of_items_that_its_length_does_not_have(self):
        for real in (0, 1, 2, 15, 16, 17):
            for count in (0, 1, 2, 3, 14, 15, 16, 17, 128, 255):
                if count != real:
                    self.refuse(message(2, 1, 5, 4, some_items(real, 103), count=count))
                    self.refuse(message(2, 1, 5, 0, some_items(real, 103), count=count))

    def test_the_fourth_byte_not_0(self):
        for fourth in (1, 2, 128, 255):
            self.refuse(message(2, 1, 5, 4, THEIRS[3:4], fourth=fourth))
            self.refuse(message(2, 1, 5, 0, [], fourth=fourth))

    def test_a_first_number_of_0_with_items(self):
        for count in (1, 2, 16):
            self.refuse(message(2, 1, 5, 0, THEIRS[3:3 + count]))

    def test_a_first_number_other_than_0_without_items(self):
        for first in (1, 4, 256, 65536, 2 ** 24, HIGH32):
            self.refuse(message(2, 1, 5, first, []))

    def test_a_wrong_check(self):
        for whole in (message(2, 1, 5, 0, []), message(2, 1, 5, 4, THEIRS[3:5])):
            for place in range(len(whole)):
                for bit in (1, 128):
                    self.refuse(whole[:place] + [whole[place] ^ bit] + whole[place + 1:])
            self.refuse(whole[:-4] + whole[:-5:-1])
            self.refuse(whole[:-4] + [byte ^ 255 for byte in whole[-4:]])

    def test_from_another(self):
        for sender in (0, 1, 3, 255):
            self.refuse(message(sender, 1, 5, 4, THEIRS[3:4]))
            self.refuse(message(sender, 1, 5, 0, []))

    def test_to_another(self):
        for receiver in (0, 2, 3, 255):
            self.refuse(message(2, receiver, 5, 4, THEIRS[3:4]))
            self.refuse(message(2, receiver, 5, 0, []))

    def test_heard_from_oneself(self):
        self.refuse(message(1, 2, 5, 4, THEIRS[3:4]))
        self.refuse(message(1, 2, 5, 0, []))
        self.refuse(message(1, 1, 5, 4, THEIRS[3:4]))
        rows = ask([start(1, 2)] + sends(MINE[:1]) + [tick()])
        self.refuse(rows[-1][4:])

    def test_whatever_takes_is(self):
        for takes in (0, 1, 5, HIGH32):
            self.refuse([2, 1, 0], takes)


class AcknowledgeTest(unittest.TestCase):
    def waiting_after(self, gots):
        """How many wait after each bare packet that tells so many got."""
        calls = []
        for got in gots:
            calls += [heard(message(2, 1, got, 0, [])), look()]
        rows = after(calls)
        self.assertEqual(rows[0::2], [NOTHING] * len(gots))
        self.assertEqual([row[3:] for row in rows[1::2]], [[20, 3]] * len(gots))
        return [row[2] for row in rows[1::2]]

    def test_up_to_what_the_other_has_got(self):
        self.assertEqual(self.waiting_after([3, 4, 9, 19, 20]), [17, 16, 11, 1, 0])

    def test_twice(self):
        self.assertEqual(self.waiting_after([5, 5, 5, 20, 20]), [15, 15, 15, 0, 0])

    def test_less_than_before(self):
        self.assertEqual(self.waiting_after([0, 1, 10, 9, 3, 0, 11]), [18, 18, 10, 10, 10, 10, 9])

    def test_more_than_were_sent(self):
        self.assertEqual(self.waiting_after([21, 22, 256, 65536, HIGH32, 3, 21]), [18, 18, 18, 18, 18, 17, 17])
        self.assertEqual(self.waiting_after([2 ** 8 + 5, 2 ** 16 + 5, 2 ** 24 + 5, 2 ** 31 + 5]), [18] * 4)

    def test_less_than_before_keeps_the_first_number(self):
        rows = after([heard(message(2, 1, 10, 0, [])), heard(message(2, 1, 4, 0, [])), tick()])
        self.assertEqual(rows[-1], told(sent(message(1, 2, 3, 11, MINE[10:]))))

    def test_more_than_were_sent_still_offers_its_items(self):
        rows = after([heard(message(2, 1, 21, 4, THEIRS[3:5])), look()])
        self.assertEqual(rows, [told(offered(1, THEIRS[3]), offered(1, THEIRS[4]), bare(5)), looked(18, 20, 5)])

    def test_a_packet_with_items_acknowledges_too(self):
        rows = after([heard(message(2, 1, 7, 4, THEIRS[3:4])), look()])
        self.assertEqual(rows, [told(offered(1, THEIRS[3]), bare(4)), looked(13, 20, 4)])

    def test_also_where_none_is_taken_or_offered(self):
        rows = after([heard(message(2, 1, 7, 4, THEIRS[3:4]), 0), look()])
        self.assertEqual(rows, [told(offered(0, THEIRS[3]), bare(3)), looked(13, 20, 3)])
        rows = after([heard(message(2, 1, 8, 9, THEIRS[:1])), look()])
        self.assertEqual(rows, [told(bare(3)), looked(12, 20, 3)])

    def test_nothing_sent_yet(self):
        rows = ask([start(1, 2), heard(message(2, 1, 0, 0, [])), heard(message(2, 1, 1, 0, [])), look()])
        self.assertEqual(rows[1:], [NOTHING, NOTHING, looked(0, 0, 0)])

    def test_a_number_that_was_too_high_counts_once_so_many_are_sent(self):
        bare_one = heard(message(2, 1, 1, 0, []))
        rows = ask([start(1, 2), bare_one] + sends(MINE[:1]) + [look(), bare_one, look()])
        self.assertEqual(rows[3:], [looked(1, 1, 0), NOTHING, looked(0, 1, 0)])


class ItemsTest(unittest.TestCase):
    def test_just_behind_what_was_got(self):
        for count in (1, 2, 15, 16):
            items = THEIRS[3:3 + count]
            rows = after([heard(message(2, 1, 2, 4, items)), look()])
            things = [offered(1, item) for item in items] + [bare(3 + count)]
            self.assertEqual(rows, [told(*things), looked(18, 20, 3 + count)])

    def test_the_first_ever(self):
        item = (255, HIGH32, HIGH64)
        rows = ask([start(1, 2), heard(message(2, 1, 0, 1, [item, (0, 0, 0)])), look()])
        self.assertEqual(rows[1:], [told(offered(1, item), offered(1, (0, 0, 0)), bare(2)), looked(0, 0, 2)])

    def test_before_what_was_got(self):
        for first in (1, 2, 3):
            items = THEIRS[first - 1:first + 7]
            rows = after([heard(message(2, 1, 2, first, items)), look()])
            things = [offered(1, item) for item in THEIRS[3:first + 7]] + [bare(first + 7)]
            self.assertEqual(rows, [told(*things), looked(18, 20, first + 7)])

    def test_all_of_it_got_already(self):
        for first, count in [(1, 1), (1, 2), (1, 3), (2, 2), (3, 1)]:
            rows = after([heard(message(2, 1, 2, first, THEIRS[first - 1:first - 1 + count])), look()])
            self.assertEqual(rows, [told(bare(3)), looked(18, 20, 3)])

    def test_further_on(self):
        for first in (5, 6, 19, 20, 256, 2 ** 8 + 4, 2 ** 16 + 4, 2 ** 24 + 4, 2 ** 31 + 4, HIGH32 - 15, HIGH32):
            rows = after([heard(message(2, 1, 2, first, THEIRS[:16])), look()])
            self.assertEqual(rows, [told(bare(3)), looked(18, 20, 3)])

    def test_takes(self):
        items = THEIRS[3:8]
        for takes in (0, 1, 2, 4, 5, 6, 255, 256, HIGH32):
            taken = min(takes, 5)
            things = [offered(1, item) for item in items[:taken]]
            things += [offered(0, item) for item in items[taken:taken + 1]] + [bare(3 + taken)]
            self.assertEqual(after([heard(message(2, 1, 2, 4, items), takes), look()]),
                             [told(*things), looked(18, 20, 3 + taken)])

    def test_takes_counts_only_what_is_offered(self):
        rows = after([heard(message(2, 1, 2, 1, THEIRS[:6]), 2), look()])
        things = [offered(1, THEIRS[3]), offered(1, THEIRS[4]), offered(0, THEIRS[5]), bare(5)]
        self.assertEqual(rows, [told(*things), looked(18, 20, 5)])

    def test_takes_is_not_kept_for_the_next_message(self):
        rows = after([heard(message(2, 1, 2, 4, THEIRS[3:4]), 9), heard(message(2, 1, 2, 5, THEIRS[4:5]), 0)])
        self.assertEqual(rows[-1], told(offered(0, THEIRS[4]), bare(4)))

    def test_refused_once_and_taken_later(self):
        row = message(2, 1, 2, 4, THEIRS[3:6])
        calls = [heard(row, 1), look(), heard(row, 0), look(), heard(row, 2), look(), heard(row), look()]
        self.assertEqual(after(calls), [
            told(offered(1, THEIRS[3]), offered(0, THEIRS[4]), bare(4)), looked(18, 20, 4),
            told(offered(0, THEIRS[4]), bare(4)), looked(18, 20, 4),
            told(offered(1, THEIRS[4]), offered(1, THEIRS[5]), bare(6)), looked(18, 20, 6),
            told(bare(6)), looked(18, 20, 6),
        ])

    def test_none_behind_a_refused_one_is_got(self):
        rows = after([heard(message(2, 1, 2, 4, THEIRS[3:6]), 0), heard(message(2, 1, 2, 5, THEIRS[4:6])), look()])
        self.assertEqual(rows, [told(offered(0, THEIRS[3]), bare(3)), told(bare(3)), looked(18, 20, 3)])

    def test_equal_items_are_each_got(self):
        rows = after([heard(message(2, 1, 2, 4, [(1, 1, 1)] * 3)), look()])
        self.assertEqual(rows, [told(*([offered(1, (1, 1, 1))] * 3 + [bare(6)])), looked(18, 20, 6)])


class BarePacketTest(unittest.TestCase):
    def test_none_for_a_message_without_items(self):
        for got in (0, 2, 20, 21):
            self.assertEqual(after([heard(message(2, 1, got, 0, []))]), [NOTHING])

    def test_it_has_16_bytes_and_no_items_though_some_wait(self):
        answer = after([heard(message(2, 1, 2, 4, THEIRS[3:4]))])[0]
        self.assertEqual(answer[7:9], [0, 16])
        self.assertEqual(answer[9:21], [1, 2, 0, 0, 4, 0, 0, 0, 0, 0, 0, 0])
        self.assertEqual(len(answer), 25)

    def test_a_lost_one_is_sent_anew(self):
        row = message(2, 1, 2, 4, THEIRS[3:5])
        rows = after([heard(row), heard(row), heard(row)])
        self.assertEqual(rows[1:], [told(bare(5)), told(bare(5))])

    def test_its_number_above_255(self):
        calls = [heard(message(2, 1, 2, 16 * turn + 4, THEIRS[:16])) for turn in range(20)]
        self.assertEqual(after(calls)[-1][-18:], bare(323))

    def test_from_and_to_at_their_edges(self):
        for me, other in [(0, 255), (255, 0)]:
            rows = ask([start(me, other), heard(message(other, me, 0, 1, THEIRS[:1]))])
            self.assertEqual(rows[1], told(offered(1, THEIRS[0]), sent(message(me, other, 1, 0, []))))


if __name__ == "__main__":
    unittest.main()

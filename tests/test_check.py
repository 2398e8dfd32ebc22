import unittest

from helper import ask, crc32c, message, sends, sent, some_items, start, tick, told
from uncutline.desk import check_of

KNOWN = [
    ([], 0x00000000),
    ([ord(sign) for sign in "123456789"], 0xE3069283),
    ([0] * 32, 0x8A9136AA),
    ([255] * 32, 0x62A8AB43),
    (list(range(32)), 0x46DD794E),
    (list(range(31, -1, -1)), 0x113FDB5C),
]


class CheckTest(unittest.TestCase):
    def test_known_rows(self):
        for row, check in KNOWN:
            self.assertEqual(check_of(row), check)

    def test_the_tests_own_check_knows_them_too(self):
        for row, check in KNOWN:
            self.assertEqual(crc32c(row), check)

    def test_each_single_byte(self):
        for byte in range(256):
            self.assertEqual(check_of([byte]), crc32c([byte]))

    def test_a_row_is_left_as_it_was(self):
        row = [1, 2, 3]
        check_of(row)
        self.assertEqual(row, [1, 2, 3])

    def test_a_packet_bears_it(self):
        items = some_items(3)
        row = ask([start(1, 2)] + sends(items) + [tick()])[-1][4:]
        self.assertEqual(int.from_bytes(bytes(row[-4:]), "little"), crc32c(row[:-4]))
        self.assertEqual(told(sent(row)), told(sent(message(1, 2, 0, 1, items))))


if __name__ == "__main__":
    unittest.main()

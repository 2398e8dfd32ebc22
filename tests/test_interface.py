import contextlib
import io
import unittest

from helper import (HIGH32, HIGH64, NOTHING, ask, heard, joined, look, looked, message, offered, send, sends, sent,
                    some_items, split, start, tick, told)
from uncutline.desk import answers


def refuse_change(self, *args, **kwargs):
    raise AssertionError("what was handed in is changed")


class Unchanged(list):
    """A list that fails at any change, one that is taken back later too."""

    append = clear = extend = insert = pop = remove = reverse = sort = refuse_change
    __setitem__ = __delitem__ = __iadd__ = __imul__ = refuse_change


def some_of_each():
    """Calls of each sort, refused ones among them."""
    calls = [start(5, 5), start(256, 1), start(1, 2)] + sends(some_items(66)) + [send(256, 0, 0), tick(), look()]
    calls += [heard(message(2, 1, 5, 1, some_items(16)), 9), heard(message(2, 1, 99, 8, some_items(9, 8)))]
    calls += [heard([]), heard([1, 2, 3]), heard([0] * 500, 0), tick(), look(), start(2, 1), look()]
    return calls


def list_of(last, count):
    """A list of 2000 calls: an end with 64 waiting, then one call again and again."""
    calls = [start(1, 2)] + sends(some_items(64))
    return calls + [last] * (count - len(calls))


class InterfaceTest(unittest.TestCase):
    def test_how_answers_stand(self):
        calls = [0, 7, 7, 0, 1, 2, 4, 3, 1, 256, 0, 0, 1, 9, 8, 7, 2, 5, 0, 3, 4]
        packet = message(1, 2, 0, 1, [(9, 8, 7)])
        expected = [2, -22, 0, 2, 0, 0, 5, 0, 0, 0, 0, 0, 2, 0, 0, 2, -22, 0, 2, 0, 0, 2, -71, 0]
        expected += [33, 0, 1, 0, 29] + packet + [5, 0, 0, 1, 1, 0]
        self.assertEqual(answers(calls), expected)

    def test_how_an_answer_of_heard_stands(self):
        row = message(2, 1, 0, 1, [(9, 8, HIGH64), (0, HIGH32, 0)])
        bare = message(1, 2, 1, 0, [])
        expected = [2, 0, 0, 30, 0, 3, 1, 1, 9, 8, HIGH64, 1, 0, 0, HIGH32, 0, 0, 16] + bare
        self.assertEqual(answers([0, 1, 2, 2, 1, 42] + row), expected)

    def test_the_shortest_lists(self):
        self.assertEqual(answers([0, 1, 2]), [2, 0, 0])
        self.assertEqual(answers([0, 2, 2]), [2, -22, 0])

    def test_numbers_that_look_like_calls_are_not_calls(self):
        calls = [start(0, 1), send(0, 1, 2), send(3, 4, 2), send(4, 3, 3), heard([0, 1, 2, 3, 4], 3),
                 heard([4] * 16, 4), look()]
        self.assertEqual(ask(calls), [NOTHING] * 4 + [[-71, 0], [-71, 0], looked(3, 3, 0)])

    def test_a_list_of_whole_numbers(self):
        given = answers(joined(some_of_each()))
        self.assertIs(type(given), list)
        self.assertEqual({type(number) for number in given}, {int})

    def test_the_list_handed_in_is_the_same_afterwards(self):
        calls = joined(some_of_each())
        before = list(calls)
        answers(calls)
        self.assertEqual(calls, before)

    def test_the_list_handed_in_is_not_changed_for_a_while_either(self):
        calls = joined(some_of_each())
        self.assertEqual(answers(Unchanged(calls)), answers(calls))

    def test_the_same_list_twice(self):
        calls = joined(some_of_each())
        first = answers(calls)
        copy = list(first)
        second = answers(calls)
        self.assertEqual(second, copy)
        self.assertIsNot(first, second)
        second.append(1)
        self.assertEqual(answers(calls), copy)

    def test_nothing_is_kept_between_lists(self):
        answers(joined([start(1, 2)] + sends(some_items(64))))
        self.assertEqual(split(answers([0, 1, 2, 4])), [NOTHING, looked(0, 0, 0)])

    def test_nothing_is_printed(self):
        out, err = io.StringIO(), io.StringIO()
        with contextlib.redirect_stdout(out), contextlib.redirect_stderr(err):
            answers(joined(some_of_each()))
        self.assertEqual(out.getvalue() + err.getvalue(), "")


class LongListTest(unittest.TestCase):
    def test_2000_ticks(self):
        packet = message(1, 2, 0, 1, some_items(16))
        self.assertEqual(ask(list_of(tick(), 2000))[65:], [told(sent(packet))] * 1935)

    def test_2000_looks(self):
        self.assertEqual(ask(list_of(look(), 2000))[65:], [looked(64, 64, 0)] * 1935)

    def test_2000_sends(self):
        self.assertEqual(ask(list_of(send(1, 2, 3), 2000))[65:], [[-11, 0]] * 1935)

    def test_2000_starts(self):
        self.assertEqual(ask([start(1, 1)] * 1999 + [start(1, 2)]), [[-22, 0]] * 1999 + [NOTHING])
        self.assertEqual(ask([start(1, 2)] * 2000), [NOTHING] * 2000)

    def test_2000_empty_messages(self):
        self.assertEqual(ask([start(1, 2)] + [heard([])] * 1999), [NOTHING] + [[-71, 0]] * 1999)

    def test_the_longest_messages(self):
        calls = [start(1, 2)] + [heard([2, 1] + [255] * 498)] * 31
        calls += [tick()] * (16000 - len(joined(calls)))
        self.assertEqual(len(joined(calls)), 16000)
        self.assertEqual(ask(calls), [NOTHING] + [[-71, 0]] * 31 + [NOTHING] * (len(calls) - 32))

    def test_the_longest_right_messages(self):
        calls = [start(1, 2)]
        expected = [NOTHING]
        for turn in range(70):
            items = some_items(16, 16 * turn + 1)
            calls.append(heard(message(2, 1, 0, 16 * turn + 1, items)))
            things = [offered(1, item) for item in items] + [sent(message(1, 2, 16 * turn + 16, 0, []))]
            expected.append(told(*things))
        calls += [look()] * (16000 - len(joined(calls)))
        self.assertEqual(len(joined(calls)), 16000)
        self.assertEqual(ask(calls), expected + [looked(0, 0, 1120)] * (len(calls) - 71))


if __name__ == "__main__":
    unittest.main()

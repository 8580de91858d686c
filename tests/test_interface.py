import io
import sys
import unittest
from contextlib import redirect_stderr, redirect_stdout

from making import SETTINGS, answer, begin, packet, plain, session, sessions
from doorward.porter import answers


class Watched(list):
    """A list that fails when it is changed."""

    def fail(self, *args, **more):
        raise AssertionError("the list handed in was changed")

    __setitem__ = __delitem__ = __iadd__ = __imul__ = fail
    append = extend = insert = pop = remove = clear = sort = reverse = fail


def some_calls():
    request = plain()
    start = session(1, b"ann", b"s")
    calls = begin(SETTINGS) + packet(1, 0, request) + packet(1, 0, start) + sessions() + sessions(1)
    return calls + sessions(-1) + packet(3, 0, request) + packet(1, 0, request, 1) + begin("") + sessions()


def some_answers():
    request = plain()
    start = session(1, b"ann", b"s")
    row = [1, 0, 21, 20, *answer(2, request), 21, 20, *answer(5, start), 13, 12, *b"1 616e6e 73\n"]
    return row + [1, -1, 1, -2, 1, 0, 1, -2, 1, 0, 1, 0]


class InterfaceTest(unittest.TestCase):
    def test_several_calls(self):
        self.assertEqual(answers(some_calls()), some_answers())

    def test_one_call(self):
        self.assertEqual(answers([0, 0]), [1, 0])
        self.assertEqual(answers([0, 1, 120]), [1, -101])

    def test_the_same_twice(self):
        calls = some_calls()
        first = answers(calls)
        self.assertEqual(answers(calls), first)

    def test_nothing_is_kept(self):
        request = plain()
        start = session(1, b"ann", b"s")
        answers(begin(SETTINGS) + packet(1, 0, request) + packet(1, 0, start))
        wrong = plain(password=b"wrong")
        given = answers(begin(SETTINGS) + packet(1, 0, wrong) + sessions())
        self.assertEqual(given, [1, 0, 21, 20, *answer(3, wrong), 1, 0])

    def test_what_is_given_back_is_free_to_change(self):
        first = answers(some_calls())
        first.clear()
        self.assertEqual(answers(some_calls()), some_answers())

    def test_the_list_stays_as_it_was(self):
        calls = some_calls()
        watched = Watched(calls)
        self.assertEqual(answers(watched), some_answers())
        self.assertEqual(list(watched), calls)

    def test_plain_whole_numbers(self):
        given = answers(some_calls())
        self.assertIs(type(given), list)
        for number in given:
            self.assertIs(type(number), int)

    def test_nothing_is_printed(self):
        printed = io.StringIO()
        with redirect_stdout(printed), redirect_stderr(printed):
            answers(some_calls())
        self.assertEqual(printed.getvalue(), "")

    def test_nothing_is_imported(self):
        before = dict(sys.modules)
        answers(some_calls())
        self.assertEqual(dict(sys.modules), before)

    def test_long_lists(self):
        blank = "\n" * 29990
        self.assertEqual(answers(begin(blank)), [1, 0])
        self.assertEqual(answers(begin(blank + "x")), [1, -100 - 29991])
        self.assertEqual(answers(begin("client 1 x\n") + packet(1, 0, bytes(29900))), [1, 0, 1, 0])
        self.assertEqual(answers(begin("") + sessions() * 299), [1, 0] * 300)

    def test_many_attributes(self):
        body = b"\x1a\x03x" * 1300
        request = bytes([1, 1]) + (20 + len(body)).to_bytes(2, "big") + bytes(16) + body
        self.assertEqual(answers(begin(SETTINGS) + packet(1, 0, request)), [1, 0, 1, 0])


if __name__ == "__main__":
    unittest.main()

import unittest

from making import (
    A, OTHER_SECRET, SETTINGS, answer, asking, begin, counted, framed, hidden, packet, plain, run, serve, session,
    sessions,
)
from doorward.porter import Porter


def with_length(data, length):
    return data[:2] + length.to_bytes(2, "big") + data[4:]


class FormTest(unittest.TestCase):
    def assert_silent(self, data, client=1):
        self.assertEqual(serve(packet(client, 0, data)), [[0]])

    def test_most(self):
        request = plain()
        expected = counted(answer(2, request))
        for most in (-2147483648, -1, 0, 4095, 65537, 2147483647):
            self.assertEqual(serve(packet(1, 0, request, most)), [[-2]])
            self.assertEqual(serve(packet(1, 0, b"", most)), [[-2]])
            self.assertEqual(serve(packet(200, 0, b"", most)), [[-2]])
        for most in (4096, 4097, 65536):
            self.assertEqual(serve(packet(1, 0, request, most)), [expected])

    def test_a_refused_packet_changes_nothing(self):
        start = session(1, b"ann", b"s")
        self.assertEqual(serve(packet(1, 0, start, 4095), sessions()), [[-2], [0]])

    def test_a_packet_too_long_to_hand_in(self):
        porter = Porter()
        porter.begin(list(SETTINGS.encode()))
        request = list(plain())
        expected = counted(answer(2, bytes(request)))
        self.assertEqual(porter.answer_packet(1, 0, 4096, request + [0] * (65535 - len(request))), expected)
        self.assertEqual(porter.answer_packet(1, 0, 4096, request + [0] * (65536 - len(request))), [-2])

    def test_short_packets(self):
        request = plain()
        for size in range(len(request)):
            self.assert_silent(request[:size])

    def test_the_length(self):
        request = plain()
        for length in (0, 1, 4, 19, len(request) + 1, 4097, 65535):
            self.assert_silent(with_length(request, length))
        self.assert_silent(with_length(framed(1, 1, A, b""), 19))

    def test_bytes_behind_do_not_count(self):
        request = plain()
        expected = counted(answer(2, request))
        for behind in (b"\0", b"\x01", bytes(100), b"\x01\x03x", bytes(5000)):
            self.assertEqual(serve(packet(1, 0, request + behind)), [expected])

    def test_a_length_of_4096_and_more(self):
        attributes = [(1, b"ann"), (2, hidden(b"sesame")), (4, b"door"), *[(26, bytes(253))] * 15]
        rest = 4096 - len(asking(attributes))
        self.assertGreater(rest, 4)
        request = asking(attributes + [(26, bytes(rest - 2))])
        self.assertEqual(serve(packet(1, 0, request)), [counted(answer(2, request))])
        self.assert_silent(asking(attributes + [(26, bytes(rest - 1))]))

    def test_wrong_attributes(self):
        request = plain()
        for tail in (b"\x1a", b"\x1a\0", b"\x1a\x01", b"\x1a\x02", b"\x1a\x03", b"\x1a\x05ab", b"\x1a\xff"):
            self.assert_silent(with_length(request + tail, len(request) + len(tail)))
        for inner in (b"\x1a\0", b"\x1a\1", b"\x1a\2"):
            self.assert_silent(framed(1, 7, A, inner + request[20:]))

    def test_the_shortest_attribute(self):
        request = asking([(26, b"x"), (1, b"ann"), (2, hidden(b"sesame")), (4, b"d"), (0, b"y")])
        self.assertEqual(serve(packet(1, 0, request)), [counted(answer(2, request))])

    def test_no_such_client(self):
        for client in (0, 3, 255, 256, 257, 4294967295):
            self.assert_silent(plain(), client)
            self.assert_silent(session(1, b"ann", b"s"), client)

    def test_other_codes(self):
        request = plain()
        for code in (0, 2, 3, 5, 11, 12, 40, 255):
            self.assert_silent(bytes([code]) + request[1:])

    def test_the_other_client(self):
        request = plain(secret=OTHER_SECRET)
        self.assertEqual(serve(packet(2, 0, request)), [counted(answer(2, request, secret=OTHER_SECRET))])


class AgainTest(unittest.TestCase):
    """The same number and A with another password tells a new answer from an old one."""

    def setUp(self):
        self.right = plain()
        self.wrong = plain(password=b"wrong")
        self.taken = counted(answer(2, self.right))
        self.turned = counted(answer(3, self.right))

    def test_the_packets_differ_in_their_answers(self):
        self.assertEqual(serve(packet(1, 0, self.right)), [self.taken])
        self.assertEqual(serve(packet(1, 0, self.wrong)), [self.turned])

    def test_within_thirty_seconds(self):
        for later in (0, 1, 29, 30):
            given = serve(packet(1, 1000, self.right), packet(1, 1000 + later, self.wrong))
            self.assertEqual(given, [self.taken, self.taken], later)

    def test_behind_thirty_seconds(self):
        for later in (31, 32, 4294966295):
            given = serve(packet(1, 1000, self.right), packet(1, 1000 + later, self.wrong))
            self.assertEqual(given, [self.taken, self.turned], later)

    def test_an_earlier_now(self):
        for now in (0, 999):
            given = serve(packet(1, 1000, self.right), packet(1, now, self.wrong), packet(1, 1000, self.wrong))
            self.assertEqual(given[1], self.turned)
        given = serve(packet(1, 4294967295, self.right), packet(1, 0, self.wrong))
        self.assertEqual(given[1], self.turned)

    def test_answering_again_renews_nothing(self):
        given = serve(packet(1, 0, self.right), packet(1, 30, self.wrong), packet(1, 31, self.wrong))
        self.assertEqual(given, [self.taken, self.taken, self.turned])

    def test_the_newest_is_taken(self):
        given = serve(
            packet(1, 100, self.right), packet(1, 131, self.wrong), packet(1, 130, self.right),
            packet(1, 135, self.right),
        )
        self.assertEqual(given, [self.taken, self.turned, self.taken, self.turned])

    def test_the_newest_is_the_one_answered_last(self):
        given = serve(packet(1, 20, self.right), packet(1, 10, self.wrong), packet(1, 25, self.right))
        self.assertEqual(given, [self.taken, self.turned, self.turned])

    def others(self, count, client=1, secret=b"s3cret"):
        return [packet(client, 0, plain(number=100 + step, secret=secret)) for step in range(count)]

    def test_sixteen_answers_are_kept(self):
        given = serve(packet(1, 0, self.right), *self.others(15), packet(1, 0, self.wrong))
        self.assertEqual(given[-1], self.taken)
        given = serve(packet(1, 0, self.right), *self.others(16), packet(1, 0, self.wrong))
        self.assertEqual(given[-1], self.turned)

    def test_the_sixteen_are_of_all_clients(self):
        given = serve(
            packet(1, 0, self.right), *self.others(16, 2, OTHER_SECRET), packet(1, 0, self.wrong)
        )
        self.assertEqual(given[-1], self.turned)

    def test_what_is_answered_again_is_not_counted(self):
        repeated = [packet(1, 0, self.wrong)] * 20
        given = serve(packet(1, 0, self.right), *repeated, *self.others(15), packet(1, 0, self.wrong))
        self.assertEqual(given[-1], self.taken)

    def test_what_was_not_answered_is_not_kept(self):
        silent = [packet(1, 0, asking([(1, b"ann")], number=step)) for step in range(20)]
        given = serve(packet(1, 0, self.right), *silent, packet(1, 0, self.wrong))
        self.assertEqual(given[-1], self.taken)
        silent = asking([(1, b"ann")])
        self.assertEqual(serve(packet(1, 0, silent), packet(1, 0, self.right)), [[0], self.taken])

    def test_another_client(self):
        request = plain(secret=OTHER_SECRET)
        given = serve(packet(1, 0, self.right), packet(2, 0, request))
        self.assertEqual(given[1], counted(answer(2, request, secret=OTHER_SECRET)))

    def test_another_number_or_authenticator(self):
        numbered = plain(password=b"wrong", number=8)
        given = serve(packet(1, 0, self.right), packet(1, 0, numbered))
        self.assertEqual(given[1], counted(answer(3, numbered)))
        for place in (0, 15):
            other = bytearray(A)
            other[place] ^= 1
            request = plain(password=b"wrong", authenticator=bytes(other))
            given = serve(packet(1, 0, self.right), packet(1, 0, request))
            self.assertEqual(given[1], counted(answer(3, request)))

    def test_it_is_looked_at_ahead_of_what_the_packet_says(self):
        for request in (framed(1, 7, A, b""), framed(4, 7, A, b"")):
            self.assertEqual(serve(packet(1, 0, self.right), packet(1, 0, request))[1], self.taken)

    def test_a_wrong_form_is_not_answered_again(self):
        for request in (self.right[:-1], b"\x02" + self.right[1:], framed(1, 7, A, b"\1\2")):
            self.assertEqual(serve(packet(1, 0, self.right), packet(1, 0, request))[1], [0])

    def test_nothing_else_happens(self):
        start = session(1, b"ann", b"s")
        stop = session(2, b"ann", b"s", number=10)
        given = serve(packet(1, 0, start), packet(1, 0, stop), packet(1, 30, start), sessions())
        self.assertEqual(given[2], counted(answer(5, start)))
        self.assertEqual(given[3], [0])
        given = serve(packet(1, 0, start), packet(1, 0, stop), packet(1, 31, start), sessions())
        self.assertEqual(given[3], counted(b"1 616e6e 73\n"))


class TooLongTest(unittest.TestCase):
    def setUp(self):
        messages = " ".join("message=" + "m" * 200 for step in range(8))
        self.settings = "client 1 s3cret\nuser ann sesame " + messages
        self.told = [(18, b"m" * 200)] * 8

    def request(self, size, password=b"sesame", proof=False):
        """A packet whose answer has so many bytes if the user is let in."""
        rest = size - len(answer(2, bytes(20), self.told, proof=proof))
        passed = []
        while rest > 300:
            passed.append(b"p" * 253)
            rest -= 255
        passed.append(b"q" * (rest // 2 - 2))
        passed.append(b"r" * (rest - rest // 2 - 2))
        attributes = [(1, b"ann"), (2, hidden(password)), (4, b"door")]
        if proof:
            attributes.append((80, bytes(16)))
        return asking(attributes + [(33, value) for value in passed]), passed

    def test_4096_and_4097(self):
        for proof in (False, True):
            request, passed = self.request(4096, proof=proof)
            expected = answer(2, request, self.told, passed=passed, proof=proof)
            self.assertEqual(len(expected), 4096)
            self.assertEqual(run(begin(self.settings), packet(1, 0, request))[1], counted(expected))
            request, passed = self.request(4097, proof=proof)
            self.assertEqual(run(begin(self.settings), packet(1, 0, request))[1], [0])

    def test_nothing_is_kept_of_it(self):
        request = self.request(4097)[0]
        wrong, passed = self.request(4097, b"wrong")
        given = run(begin(self.settings), packet(1, 0, request), packet(1, 0, wrong))
        self.assertEqual(given[1:], [[0], counted(answer(3, wrong, passed=passed))])


if __name__ == "__main__":
    unittest.main()

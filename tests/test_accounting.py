import unittest

from making import (
    OTHER_SECRET, SECRET, answer, counted, framed, keyed, md5, packet, serve, session, sessions, status, telling,
)


def listed(*rows):
    """What sessions answers where these are there."""
    lines = ["{} {} {}\n".format(client, user.hex(), name.hex()) for client, user, name in rows]
    return counted("".join(lines).encode())


START = session(1, b"ann", b"s1")
ONE = (1, b"ann", b"s1")


class AccountingTest(unittest.TestCase):
    def assert_taken(self, request, *rows, **more):
        expected = counted(answer(5, request, **more))
        self.assertEqual(serve(packet(1, 0, request), sessions()), [expected, listed(*rows)])

    def assert_silent(self, request):
        """There's no answer, and the session that was there still is, alone."""
        given = serve(packet(1, 0, START), packet(1, 0, request), sessions())
        self.assertEqual(given[1:], [[0], listed(ONE)])

    def told(self, *requests):
        """The sessions behind packets of clients, all of which must be answered."""
        calls = [packet(client, 0, request) for client, request in requests]
        given = serve(*calls, sessions())
        for part in given[:-1]:
            self.assertEqual(part[:2], [20, 5])
        return given[-1]

    def test_a_session_begins(self):
        self.assert_taken(START, ONE)
        self.assert_taken(session(3, b"ann", b"s1"), ONE)

    def test_users_need_not_be_known(self):
        self.assert_taken(session(1, b"nobody\0\xff", bytes(253)), (1, b"nobody\0\xff", bytes(253)))

    def test_a_wrong_authenticator(self):
        request = session(1, b"bob", b"s2")
        for place in (0, 15):
            wrong = bytearray(request)
            wrong[4 + place] ^= 1
            self.assert_silent(bytes(wrong))
        self.assert_silent(request[:4] + bytes(16) + request[20:])
        self.assert_silent(session(1, b"bob", b"s2", secret=OTHER_SECRET))
        self.assert_silent(request[:-1] + b"!")

    def test_the_authenticator_does_not_count_what_is_behind(self):
        given = serve(packet(1, 0, START + b"behind"), sessions())
        self.assertEqual(given, [counted(answer(5, START)), listed(ONE)])

    def test_proof(self):
        attributes = [status(1), (1, b"ann"), (44, b"s1")]
        self.assert_taken(telling(attributes + [(80, bytes(16))]), ONE, proof=True)
        self.assert_taken(telling([(80, bytes(16))] + attributes), ONE, proof=True)
        passed = telling([(80, bytes(16)), (33, b"x")] + attributes + [(33, b"y")])
        self.assert_taken(passed, ONE, proof=True, passed=[b"x", b"y"])

    def test_wrong_proof(self):
        attributes = [status(1), (1, b"bob"), (44, b"s2")]
        self.assert_silent(telling(attributes + [(80, b"x" * 16)]))
        self.assert_silent(telling(attributes + [(80, b"x" * 15)]))
        self.assert_silent(telling(attributes + [(80, b"x" * 17)]))
        self.assert_silent(telling(attributes + [(80, bytes(16)), (80, bytes(16))]))

    def test_proof_with_the_authenticator_in_it(self):
        # A proof that is right but for the bytes that stand for A.
        request = session(1, b"bob", b"s2")
        body = request[20:] + b"\x50\x12"
        data = framed(4, 9, request[4:20], body + bytes(16))
        proof = keyed(SECRET, data)
        data = data[:4] + bytes(16) + body + proof
        self.assert_silent(data[:4] + md5(data + SECRET) + data[20:])

    def test_passed_back(self):
        attributes = [(33, b"x"), status(1), (1, b"ann"), (33, b"yy"), (44, b"s1")]
        self.assert_taken(telling(attributes), ONE, passed=[b"x", b"yy"])

    def test_one_status(self):
        rest = [(1, b"bob"), (44, b"s2")]
        self.assert_silent(telling(rest))
        self.assert_silent(telling(rest + [status(1), status(1)]))
        self.assert_silent(telling([status(7), status(8)]))

    def test_other_status_bytes(self):
        rest = [(1, b"bob"), (44, b"s2")]
        values = (
            b"\1", b"\0\0\1", b"\0\0\0\0\1", b"\1\0\0\1", b"\0\1\0\1", b"\0\0\1\1", b"\1\0\0\0", b"\0\0\0\1\0",
            b"\0\0\0", b"\0\0\0\1\1",
        )
        for value in values:
            self.assert_silent(telling(rest + [(40, value)]))
        for value in (b"\7", b"\0\0\1\7", b"\0\0\0\7\0"):
            self.assert_silent(telling([(40, value)]))

    def test_other_statuses(self):
        for kind in (0, 4, 5, 6, 9, 10, 15, 255):
            self.assert_silent(session(kind, b"bob", b"s2"))
            self.assert_silent(session(kind, b"ann", b"s1"))
            self.assert_silent(telling([status(kind)]))

    def test_one_user_and_one_name(self):
        user = (1, b"ann")
        name = (44, b"s1")
        for kind in (1, 2, 3):
            for rest in ([], [user], [name], [user, user, name], [user, name, name], [(2, b"ann"), (43, b"s1")]):
                self.assert_silent(telling([status(kind)] + rest))

    def test_a_session_ends(self):
        stop = session(2, b"ann", b"s1")
        self.assertEqual(self.told((1, START), (1, stop)), listed())
        self.assertEqual(self.told((1, stop)), listed())

    def test_only_that_session_ends(self):
        first = session(1, b"ann", b"s1")
        second = session(1, b"bob", b"s1")
        third = session(1, b"ann", b"s2")
        fourth = session(1, b"ann", b"s1", secret=OTHER_SECRET)
        stop = session(2, b"ann", b"s1")
        given = self.told((1, first), (1, second), (1, third), (2, fourth), (1, stop))
        self.assertEqual(given, listed((1, b"bob", b"s1"), (1, b"ann", b"s2"), (2, b"ann", b"s1")))

    def test_a_session_that_is_there_stays_in_its_place(self):
        second = session(1, b"bob", b"s2")
        expected = listed(ONE, (1, b"bob", b"s2"))
        self.assertEqual(self.told((1, START), (1, second), (1, session(3, b"ann", b"s1"))), expected)
        again = session(1, b"ann", b"s1", number=200)
        self.assertEqual(self.told((1, START), (1, second), (1, again)), expected)

    def test_a_session_that_was_gone_comes_last(self):
        second = session(1, b"bob", b"s2")
        stop = session(2, b"ann", b"s1")
        again = session(1, b"ann", b"s1", number=200)
        given = self.told((1, START), (1, second), (1, stop), (1, again))
        self.assertEqual(given, listed((1, b"bob", b"s2"), ONE))

    def test_user_and_name_are_kept_apart(self):
        given = self.told((1, session(1, b"a", b"bc")), (1, session(1, b"ab", b"c")))
        self.assertEqual(given, listed((1, b"a", b"bc"), (1, b"ab", b"c")))

    def test_all_sessions_of_a_client_are_gone(self):
        for kind in (7, 8):
            for rest in ([], [(1, b"zoe")], [(1, b"zoe"), (1, b"zoe"), (44, b"x")]):
                given = self.told(
                    (1, START), (2, session(1, b"ann", b"s1", secret=OTHER_SECRET)),
                    (1, session(1, b"bob", b"s2")), (2, session(3, b"cid", b"s3", secret=OTHER_SECRET)),
                    (1, telling([status(kind)] + rest)),
                )
                self.assertEqual(given, listed((2, b"ann", b"s1"), (2, b"cid", b"s3")))

    def test_64_sessions(self):
        starts = [packet(1, 0, session(1, b"ann", bytes([step]))) for step in range(62)]
        starts.append(packet(2, 0, session(1, b"ann", b"a", secret=OTHER_SECRET)))
        starts.append(packet(2, 0, session(3, b"ann", b"b", secret=OTHER_SECRET)))
        kept = [(1, b"ann", bytes([step])) for step in range(62)] + [(2, b"ann", b"a"), (2, b"ann", b"b")]
        for kind in (1, 3):
            more = session(kind, b"bob", b"more", number=77)
            given = serve(*starts, packet(1, 0, more), sessions())
            self.assertEqual(given[-2:], [[0], listed(*kept)])
            there = session(kind, b"ann", b"\0", number=77)
            given = serve(*starts, packet(1, 0, there), sessions())
            self.assertEqual(given[-2:], [counted(answer(5, there)), listed(*kept)])
            stop = session(2, b"ann", b"\0", number=78)
            given = serve(*starts, packet(1, 0, more), packet(1, 0, stop), packet(1, 0, more), sessions())
            self.assertEqual(given[-2:], [counted(answer(5, more)), listed(*kept[1:], (1, b"bob", b"more"))])


if __name__ == "__main__":
    unittest.main()

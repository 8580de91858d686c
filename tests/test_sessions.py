import unittest

from making import begin, counted, packet, run, serve, session, sessions


class SessionsTest(unittest.TestCase):
    def test_none(self):
        for most in (0, 1, 65536):
            self.assertEqual(serve(sessions(most)), [[0]])

    def test_most_out_of_range(self):
        start = packet(1, 0, session(1, b"ann", b"s"))
        for most in (-2147483648, -2, -1, 65537, 2147483647):
            self.assertEqual(serve(sessions(most)), [[-2]])
            self.assertEqual(serve(start, sessions(most), sessions())[1:], [[-2], counted(b"1 616e6e 73\n")])

    def test_in_the_order_they_came(self):
        calls = [packet(1, 0, session(1, name, b"\x00\xff")) for name in (b"zoe", b"ann", b"Bob")]
        expected = b"1 7a6f65 00ff\n1 616e6e 00ff\n1 426f62 00ff\n"
        self.assertEqual(serve(*calls, sessions())[-1], counted(expected))

    def test_every_byte_in_small_letters(self):
        low = bytes(range(128))
        high = bytes(range(128, 256))
        expected = "1 {} {}\n".format(low.hex(), high.hex()).encode()
        self.assertEqual(serve(packet(1, 0, session(3, low, high)), sessions())[-1], counted(expected))

    def test_clients_of_one_to_three_digits(self):
        for client in (0, 9, 10, 99, 100, 255):
            text = "client {} s3cret".format(client)
            given = run(begin(text), packet(client, 0, session(1, b"a", b"b")), sessions())
            self.assertEqual(given[-1], counted("{} 61 62\n".format(client).encode()))

    def test_room(self):
        calls = [packet(1, 0, session(1, name, b"s")) for name in (b"ann", b"bob")]
        lines = b"1 616e6e 73\n1 626f62 73\n"
        for most in (len(lines), len(lines) + 1, 65536):
            self.assertEqual(serve(*calls, sessions(most))[-1], counted(lines))
        for most in (0, 1, 12, len(lines) - 1):
            self.assertEqual(serve(*calls, sessions(most), sessions())[-2:], [[-1], counted(lines)])

    def test_asking_changes_nothing(self):
        start = packet(1, 0, session(1, b"ann", b"s"))
        given = serve(start, sessions(), sessions(0), sessions(-1), sessions())
        self.assertEqual(given[1], given[4])

    def test_the_longest_list(self):
        text = "client 255 s3cret"
        names = [bytes([step]) * 253 for step in range(20)]
        calls = [packet(255, 0, session(1, name, name)) for name in names]
        lines = "".join("255 {0} {0}\n".format(name.hex()) for name in names).encode()
        self.assertEqual(run(begin(text), *calls, sessions())[-1], counted(lines))


if __name__ == "__main__":
    unittest.main()

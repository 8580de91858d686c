import unittest

from making import A, SECRET, answer, begin, counted, hidden, packet, plain, run, session, sessions, asking
from doorward.porter import Porter


class BeginTest(unittest.TestCase):
    def assert_taken(self, text):
        self.assertEqual(run(begin(text)), [[0]], text)

    def assert_refused(self, text, line):
        self.assertEqual(run(begin(text)), [[-100 - line]], text)

    def test_texts_that_say_nothing(self):
        for text in ("", "\n", "\n\n\n", "   ", "  \n \n", " "):
            self.assert_taken(text)

    def test_the_last_newline_may_lack(self):
        for text in ("client 1 x", "client 1 x\n", "client 1 x\nuser a b", "client 1 x\nuser a b\n"):
            self.assert_taken(text)

    def test_blanks_around_words(self):
        self.assert_taken("  client   1    x  \n   user  a   b    limit=3  ")

    def test_a_wrong_sign(self):
        for sign in ("\t", "\r", "\0", "\x1f", "\x7f", "\x80", "\xa0", "\xff"):
            self.assert_refused("client 1 x" + sign, 1)
            self.assert_refused("client 1 x\n" + sign + "\nclient 2 x", 2)
            self.assert_refused("client 1 x\nuser a b message=" + sign + "\n", 2)

    def test_the_printable_edges(self):
        self.assert_taken("client 1 !~\nuser !~ ~! message=!~")

    def test_other_lines(self):
        for line in ("x", "clients 1 x", "Client 1 x", "client", "user", "clien 1 x", "USER a b", "# remark"):
            self.assert_refused(line, 1)

    def test_client_words(self):
        self.assert_refused("client 1", 1)
        self.assert_refused("client 1 x y", 1)

    def test_client_numbers(self):
        for number in ("0", "255", "00", "0000000255", "1"):
            self.assert_taken("client " + number + " x")
        for number in ("256", "00000000255", "-1", "+1", "1a", "a", "1.0", "4294967296", "/", ":"):
            self.assert_refused("client " + number + " x", 1)

    def test_the_same_client_twice(self):
        self.assert_refused("client 1 x\nclient 2 x\nclient 1 y", 3)
        self.assert_refused("client 1 x\nclient 01 x", 2)

    def test_all_clients(self):
        self.assert_taken("".join("client {} x\n".format(number) for number in range(256)))

    def test_secret_sizes(self):
        self.assert_taken("client 1 " + "x" * 64)
        self.assert_refused("client 1 " + "x" * 65, 1)

    def test_user_words(self):
        self.assert_refused("user a", 1)
        self.assert_taken("user a b")
        eight = " ".join(["idle=1"] * 8)
        self.assert_taken("user a b " + eight)
        self.assert_refused("user a b " + eight + " idle=1", 1)
        self.assert_taken("user a b limit=1 " + " ".join(["idle=1"] * 7))
        self.assert_refused("user a b limit=1 " + eight, 1)

    def test_user_count(self):
        users = "".join("user n{} p\n".format(number) for number in range(256))
        self.assert_taken(users)
        self.assert_refused(users + "user more p\n", 257)
        self.assert_taken(users + "\nclient 1 x")

    def test_the_same_name_twice(self):
        self.assert_refused("user a b\nuser c b\nuser a d", 3)
        self.assert_taken("user a b\nuser A b")

    def test_name_and_password_sizes(self):
        self.assert_taken("user " + "n" * 63 + " p")
        self.assert_refused("user " + "n" * 64 + " p", 1)
        self.assert_taken("user n " + "p" * 128)
        self.assert_refused("user n " + "p" * 129, 1)

    def test_limits(self):
        for limit in ("0", "1", "64", "064", "0000000064"):
            self.assert_taken("user a b limit=" + limit)
        for limit in ("65", "", "-1", "x", "00000000064", "4294967295"):
            self.assert_refused("user a b limit=" + limit, 1)
        self.assert_refused("user a b limit=1 limit=1", 1)
        self.assert_refused("user a b limit=0 idle=1 limit=0", 1)

    def test_numbers_that_are_told(self):
        for label in ("service", "timeout", "idle"):
            for number in ("0", "4294967295", "0000000001"):
                self.assert_taken("user a b " + label + "=" + number)
            for number in ("4294967296", "9999999999", "00000000001", "", "-1", "1x", "=1", "0x1"):
                self.assert_refused("user a b " + label + "=" + number, 1)
            self.assert_taken("user a b {0}=1 {0}=1".format(label))

    def test_messages(self):
        self.assert_refused("user a b message=", 1)
        self.assert_taken("user a b message=x")
        self.assert_taken("user a b message==")
        self.assert_taken("user a b message=" + "x" * 200)
        self.assert_refused("user a b message=" + "x" * 201, 1)

    def test_other_words(self):
        for word in ("x", "limit", "=", "=1", "x=1", "Limit=1", "limits=1", "message", "class=1"):
            self.assert_refused("user a b " + word, 1)

    def test_the_first_wrong_line_is_told(self):
        self.assert_refused("client 1 x\n\n  \nuser a b\nwrong\nclient 1 x\n", 5)
        self.assert_refused("\n\nwrong", 3)
        self.assert_refused("wrong\nwrong\n", 1)
        self.assert_refused("\n" * 499 + "wrong", 500)

    def test_what_the_settings_say_is_so(self):
        text = "client 255 " + "x" * 64 + "\nuser " + "n" * 63 + " " + "p" * 128 + " message=" + "m" * 200
        secret = b"x" * 64
        request = asking(
            [(1, b"n" * 63), (2, hidden(b"p" * 128, secret, A)), (32, b"door")], secret=secret
        )
        expected = answer(2, request, [(18, b"m" * 200)], secret)
        self.assertEqual(run(begin(text), packet(255, 0, request)), [[0], counted(expected)])

    def test_begin_again(self):
        first = "client 1 s3cret\nuser ann sesame"
        request = plain()
        start = session(1, b"ann", b"s")
        given = run(
            begin(first), packet(1, 5, request), packet(1, 5, start), sessions(),
            begin("client 1 s3cret\nuser ann other"), sessions(), packet(1, 5, request),
            begin("client 2 s3cret"), packet(1, 5, request), packet(1, 5, start), sessions(),
        )
        self.assertEqual(given[1], counted(answer(2, request)))
        self.assertEqual(given[3], counted(b"1 616e6e 73\n"))
        self.assertEqual(given[4:6], [[0], [0]])
        self.assertEqual(given[6], counted(answer(3, request)))
        self.assertEqual(given[7:], [[0], [0], [0], [0]])

    def test_without_a_server(self):
        porter = Porter()
        self.assertEqual(porter.list_sessions(-1), [-9])
        self.assertEqual(porter.answer_packet(1, 0, 0, []), [-9])
        for text, refusal in (([120], -101), ([10] * 65537, -2)):
            self.assertEqual(porter.begin(list(b"client 1 x")), [0])
            self.assertEqual(porter.list_sessions(0), [0])
            self.assertEqual(porter.begin(text), [refusal])
            self.assertEqual(porter.list_sessions(0), [-9])
            self.assertEqual(porter.answer_packet(1, 0, 4096, []), [-9])
        self.assertEqual(porter.begin([10] * 65536), [0])

    def test_the_secret_counts(self):
        request = plain(secret=b"wrong")
        expected = answer(3, request, secret=SECRET)
        given = run(begin("client 1 s3cret\nuser ann sesame"), packet(1, 0, request))
        self.assertEqual(given[1], counted(expected))


if __name__ == "__main__":
    unittest.main()

import unittest

from making import (
    A, OTHER_SECRET, SECRET, answer, asking, begin, counted, hashed, hidden, packet, plain, run, serve, session,
)

DOOR = (4, b"\x7f\0\0\1")
NAME = (1, b"ann")
PASSWORD = (2, hidden(b"sesame"))
BOB_TOLD = [
    (27, b"\0\0\x0e\x10"), (18, b"hello"), (28, b"\0\0\0\x3c"), (6, b"\0\0\0\2"), (18, b"a=b"),
]
TOO_MANY = [(18, b"too many")]


class AccessTest(unittest.TestCase):
    def assert_answer(self, request, code, told=(), **more):
        self.assertEqual(serve(packet(1, 0, request)), [counted(answer(code, request, told, **more))])

    def assert_silent(self, request):
        self.assertEqual(serve(packet(1, 0, request)), [[0]])

    def test_let_in(self):
        self.assert_answer(plain(), 2)

    def test_what_is_told_comes_in_order(self):
        self.assert_answer(plain(b"bob", b"hunter2"), 2, BOB_TOLD)

    def test_numbers_in_four_bytes(self):
        for number in (0, 255, 256, 65536, 16909060, 4294967295):
            text = "client 1 s3cret\nuser ann sesame service={}".format(number)
            expected = answer(2, plain(), [(6, number.to_bytes(4, "big"))])
            self.assertEqual(run(begin(text), packet(1, 0, plain()))[1], counted(expected))

    def test_no_such_user(self):
        for name in (b"ANN", b"an", b"annn", b"\0", b"ann\0", bytes(range(253))):
            self.assert_answer(plain(name), 3)
        self.assert_answer(asking([(1, b"x"), (3, hashed(b"sesame")), DOOR]), 3)

    def test_wrong_password(self):
        for password in (b"", b"sesam", b"sesame2", b"SESAME", b"hunter2", b"\0sesame", b"sesame\0x", b"x" * 128):
            self.assert_answer(plain(password=password), 3)
        self.assert_answer(plain(b"bob", b"wrong"), 3)

    def test_the_door_is_named(self):
        self.assert_silent(asking([NAME, PASSWORD]))
        self.assert_silent(asking([NAME, PASSWORD, (5, b"xxxx"), (31, b"x")]))
        for doors in ([(32, b"d")], [(4, b"d")], [(4, b"d"), (32, b"d")], [(4, b"d")] * 2, [(32, b"d")] * 2):
            self.assert_answer(asking([NAME, PASSWORD] + doors), 2)

    def test_the_name_is_there_once(self):
        self.assert_silent(asking([PASSWORD, DOOR]))
        self.assert_silent(asking([NAME, NAME, PASSWORD, DOOR]))
        self.assert_silent(asking([NAME, (1, b"x"), PASSWORD, DOOR]))

    def test_one_password(self):
        told = (3, hashed(b"sesame"))
        for passwords in ([], [PASSWORD] * 2, [told] * 2, [PASSWORD, told], [told, PASSWORD], [PASSWORD, told, told]):
            self.assert_silent(asking([NAME, DOOR] + passwords))

    def test_attributes_in_any_order(self):
        self.assert_answer(asking([DOOR, PASSWORD, (5, b"port"), NAME]), 2)

    def test_hidden_sizes(self):
        for blocks in range(1, 9):
            self.assert_answer(asking([NAME, (2, hidden(b"sesame", blocks=blocks)), DOOR]), 2)
        self.assert_silent(asking([NAME, (2, hidden(b"sesame", blocks=9)), DOOR]))
        for size in (1, 15, 17, 31, 33, 127, 129, 143, 144, 253):
            self.assert_silent(asking([NAME, (2, bytes(size)), DOOR]))
            self.assert_silent(asking([(1, b"nobody"), (2, bytes(size)), DOOR]))

    def test_long_passwords(self):
        for size in (1, 15, 16, 17, 31, 32, 33, 112, 127, 128):
            password = (b"0123456789abcdefghijklmnopqrstuvwxyz" * 4)[:size]
            text = "client 1 s3cret\nuser ann " + password.decode()
            right = plain(password=password)
            self.assertEqual(run(begin(text), packet(1, 0, right))[1], counted(answer(2, right)))
            wrong = plain(password=password[:-1] + b"!")
            self.assertEqual(run(begin(text), packet(1, 0, wrong))[1], counted(answer(3, wrong)))

    def test_hashed_passwords(self):
        for byte in (b"\0", b"\x21", b"\xff"):
            self.assert_answer(asking([NAME, (3, hashed(b"sesame", A, byte)), DOOR]), 2)
        self.assert_answer(asking([NAME, (3, hashed(b"wrong")), DOOR]), 3)
        right = hashed(b"sesame")
        self.assert_answer(asking([NAME, (3, b"\0" + right[1:]), DOOR]), 3)
        self.assert_answer(asking([NAME, (3, right[:-1] + b"!"), DOOR]), 3)

    def test_hashed_sizes(self):
        right = hashed(b"sesame")
        for value in (right[:16], right + b"\0", right[:1], right * 2):
            self.assert_silent(asking([NAME, (3, value), DOOR]))
            self.assert_silent(asking([(1, b"nobody"), (3, value), DOOR]))

    def test_challenges(self):
        for challenge in (b"c", b"challenge", b"0123456789abcdef", bytes(253)):
            told = (3, hashed(b"sesame", challenge))
            self.assert_answer(asking([NAME, told, DOOR, (60, challenge)]), 2)
            self.assert_answer(asking([NAME, told, DOOR, (60, challenge[:-1] + b"!")]), 3)
            self.assert_answer(asking([NAME, told, DOOR]), 3)
        self.assert_answer(asking([NAME, (3, hashed(b"sesame")), DOOR, (60, b"other")]), 3)

    def test_two_challenges(self):
        told = (3, hashed(b"sesame", b"c"))
        self.assert_silent(asking([NAME, told, DOOR, (60, b"c"), (60, b"c")]))
        self.assert_silent(asking([(1, b"nobody"), told, DOOR, (60, b"c"), (60, b"c")]))
        self.assert_answer(asking([NAME, PASSWORD, DOOR, (60, b"c"), (60, b"c")]), 2)

    def test_proof(self):
        proof = (80, bytes(16))
        for attributes in ([NAME, PASSWORD, DOOR, proof], [proof, NAME, PASSWORD, DOOR]):
            self.assert_answer(asking(attributes), 2, proof=True)
        self.assert_answer(asking([(1, b"nobody"), PASSWORD, DOOR, proof]), 3, proof=True)
        bob = asking([(1, b"bob"), (2, hidden(b"hunter2")), DOOR, proof])
        self.assert_answer(bob, 2, BOB_TOLD, proof=True)

    def test_proof_does_not_count_what_is_behind(self):
        request = asking([NAME, PASSWORD, DOOR, (80, bytes(16))])
        expected = counted(answer(2, request, proof=True))
        self.assertEqual(serve(packet(1, 0, request + b"behind")), [expected])

    def test_wrong_proof(self):
        right = asking([NAME, PASSWORD, DOOR, (80, bytes(16))])
        for place in range(len(right) - 16, len(right)):
            wrong = bytearray(right)
            wrong[place] ^= 1
            self.assert_silent(bytes(wrong))
        self.assert_silent(asking([NAME, PASSWORD, DOOR, (80, bytes(16))], secret=OTHER_SECRET))
        self.assert_silent(asking([NAME, PASSWORD, DOOR, (80, b"x" * 16)]))

    def test_proof_once(self):
        once = asking([NAME, PASSWORD, DOOR, (80, bytes(16))])
        self.assert_silent(asking([NAME, PASSWORD, DOOR, (80, bytes(16)), (80, once[-16:])]))
        self.assert_silent(asking([NAME, PASSWORD, DOOR, (80, bytes(16)), (80, b"x")]))

    def test_proof_sizes(self):
        for size in (1, 15, 17, 32):
            self.assert_silent(asking([NAME, PASSWORD, DOOR, (80, b"x" * size)]))

    def test_passed_back(self):
        passed = [b"one", b"two" * 80, b"1", b"one"]
        attributes = [(33, passed[0]), NAME, (33, passed[1]), PASSWORD, DOOR, (33, passed[2]), (33, passed[3])]
        self.assert_answer(asking(attributes), 2, passed=passed)
        self.assert_answer(asking([(33, b"x"), (1, b"nobody"), PASSWORD, DOOR]), 3, passed=[b"x"])
        both = [(80, bytes(16)), (33, b"x"), (1, b"bob"), (2, hidden(b"hunter2")), DOOR]
        self.assert_answer(asking(both), 2, BOB_TOLD, passed=[b"x"], proof=True)

    def test_answer_lengths(self):
        for length in (255, 256, 257, 510, 511, 512, 513):
            rest = length - 20
            passed = [b"p" * (rest // 3 - 2), b"q" * (rest // 3 - 2), b"r" * (rest - 2 * (rest // 3) - 2)]
            request = asking([NAME, PASSWORD, DOOR] + [(33, value) for value in passed])
            self.assertEqual(len(answer(2, request, passed=passed)), length)
            self.assert_answer(request, 2, passed=passed)

    def test_every_number(self):
        for number in (0, 1, 128, 255):
            self.assert_answer(plain(number=number), 2)


class LimitTest(unittest.TestCase):
    def last(self, *calls):
        return serve(*calls)[-1]

    def started(self, client, user, name, secret=SECRET):
        return packet(client, 0, session(1, user, name, secret=secret))

    def test_the_limit(self):
        bob = plain(b"bob", b"hunter2")
        allowed = counted(answer(2, bob, BOB_TOLD))
        refused = counted(answer(3, bob, TOO_MANY))
        one = self.started(1, b"bob", b"1")
        two = self.started(2, b"bob", b"1", OTHER_SECRET)
        three = self.started(1, b"bob", b"3")
        ann = self.started(1, b"ann", b"4")
        self.assertEqual(self.last(packet(1, 0, bob)), allowed)
        self.assertEqual(self.last(one, ann, packet(1, 0, bob)), allowed)
        self.assertEqual(self.last(one, two, packet(1, 0, bob)), refused)
        self.assertEqual(self.last(one, two, three, packet(1, 0, bob)), refused)
        stopped = packet(1, 0, session(2, b"bob", b"1"))
        self.assertEqual(self.last(one, two, stopped, packet(1, 0, bob)), allowed)

    def test_a_wrong_password_comes_first(self):
        wrong = plain(b"nil", b"wrong")
        self.assertEqual(self.last(packet(1, 0, wrong)), counted(answer(3, wrong)))

    def test_a_limit_of_zero(self):
        request = plain(b"nil", b"nothing")
        self.assertEqual(self.last(packet(1, 0, request)), counted(answer(3, request, TOO_MANY)))

    def test_what_is_behind_too_many(self):
        attributes = [(1, b"nil"), (2, hidden(b"nothing")), (32, b"d"), (80, bytes(16)), (33, b"x")]
        request = asking(attributes)
        expected = answer(3, request, TOO_MANY, passed=[b"x"], proof=True)
        self.assertEqual(self.last(packet(1, 0, request)), counted(expected))

    def test_no_limit(self):
        request = plain()
        starts = [self.started(1, b"ann", bytes([step])) for step in range(64)]
        self.assertEqual(self.last(*starts, packet(1, 0, request)), counted(answer(2, request)))

    def test_a_limit_of_64(self):
        text = "client 1 s3cret\nuser ann sesame limit=64"
        request = plain()
        starts = [self.started(1, b"ann", bytes([step])) for step in range(64)]
        given = run(begin(text), *starts[:63], packet(1, 0, request))
        self.assertEqual(given[-1], counted(answer(2, request)))
        given = run(begin(text), *starts, packet(1, 0, request))
        self.assertEqual(given[-1], counted(answer(3, request, TOO_MANY)))


if __name__ == "__main__":
    unittest.main()

import hashlib
import hmac
import math
import unittest

from doorward.digest import SINES, keyed_md5, md5


def message_of(size):
    return bytes((37 * place + size) % 256 for place in range(size))


class SumsTest(unittest.TestCase):
    def test_known_values(self):
        known = {
            b"": "d41d8cd98f00b204e9800998ecf8427e",
            b"a": "0cc175b9c0f1b6a831c399e269772661",
            b"abc": "900150983cd24fb0d6963f7d28e17f72",
            b"message digest": "f96b697d7cb7938d525a2f31aaf161d0",
        }
        for message, value in known.items():
            self.assertEqual(bytes(md5(list(message))).hex(), value)

    def test_messages_of_all_sizes(self):
        for size in list(range(0, 131)) + [1000, 4096]:
            message = message_of(size)
            self.assertEqual(md5(list(message)), list(hashlib.md5(message).digest()), size)

    def test_signs_of_the_highest_bits(self):
        for byte in (0, 0x7f, 0x80, 0xff):
            message = bytes([byte]) * 64
            self.assertEqual(md5(list(message)), list(hashlib.md5(message).digest()))

    def test_the_sines(self):
        self.assertEqual(list(SINES), [int(2 ** 32 * abs(math.sin(step + 1))) for step in range(64)])

    def test_with_a_key(self):
        for key_size in (1, 15, 16, 63, 64):
            key = message_of(key_size)
            for size in (0, 1, 55, 56, 63, 64, 65, 300):
                message = message_of(size)
                self.assertEqual(
                    keyed_md5(list(key), list(message)), list(hmac.new(key, message, "md5").digest())
                )

    def test_known_value_with_a_key(self):
        value = keyed_md5(list(b"Jefe"), list(b"what do ya want for nothing?"))
        self.assertEqual(bytes(value).hex(), "750c783e6ab0b503eaa86e310a5db738")

    def test_the_message_stays(self):
        message = list(b"stay")
        key = list(b"key")
        md5(message)
        keyed_md5(key, message)
        self.assertEqual((message, key), (list(b"stay"), list(b"key")))


if __name__ == "__main__":
    unittest.main()

"""Makes calls and packets for the tests, with sums of Python's own."""

import hashlib
import hmac

from doorward.porter import answers

SECRET = b"s3cret"
OTHER_SECRET = b"another"
A = bytes(range(100, 116))
SETTINGS = (
    "client 1 s3cret\n"
    "client 2 another\n"
    "user ann sesame\n"
    "user bob hunter2 limit=2 timeout=3600 message=hello idle=60 service=2 message=a=b\n"
    "user nil nothing limit=0\n"
)


def begin(text):
    data = text.encode("latin-1")
    return [0, len(data)] + list(data)


def packet(client, now, data, most=4096):
    return [1, client, now, most, len(data)] + list(data)


def sessions(most=65536):
    return [2, most]


def parted(given):
    """The answers of a list, each without its count; the counts must fit."""
    parts = []
    place = 0
    while place < len(given):
        count = given[place]
        part = given[place + 1:place + 1 + count]
        if count < 1 or len(part) != count:
            raise AssertionError("a count doesn't fit: " + repr(given))
        parts.append(part)
        place += 1 + count
    return parts


def run(*calls):
    """The answers to calls, a list for each."""
    row = []
    for call in calls:
        row.extend(call)
    return parted(answers(row))


def serve(*calls):
    """The answers to calls behind a begin with the ordinary settings."""
    parts = run(begin(SETTINGS), *calls)
    if parts[0] != [0]:
        raise AssertionError("begin was refused: " + repr(parts[0]))
    return parts[1:]


def counted(data):
    """What's answered where these bytes are."""
    return [len(data)] + list(data)


def md5(data):
    return hashlib.md5(data).digest()


def keyed(key, data):
    return hmac.new(key, data, "md5").digest()


def attribute(kind, value):
    return bytes([kind, len(value) + 2]) + value


def joined(attributes):
    return b"".join(attribute(kind, value) for kind, value in attributes)


def framed(code, number, authenticator, body):
    return bytes([code, number]) + (20 + len(body)).to_bytes(2, "big") + authenticator + body


def proved(data, secret, authenticator):
    """The packet with its first 80 filled with the sum in which authenticator stands for A."""
    place = 20
    while data[place] != 80:
        place += data[place + 1]
    place += 2
    blanked = data[:4] + authenticator + data[20:place] + bytes(16) + data[place + 16:]
    return data[:place] + keyed(secret, blanked) + data[place + 16:]


def asking(attributes, number=7, authenticator=A, secret=SECRET):
    """A packet of code 1; an 80 of sixteen zeros gets its sum."""
    data = framed(1, number, authenticator, joined(attributes))
    if (80, bytes(16)) in attributes:
        data = proved(data, secret, authenticator)
    return data


def telling(attributes, number=9, secret=SECRET):
    """A packet of code 4 with its sum; an 80 of sixteen zeros gets its own."""
    data = framed(4, number, bytes(16), joined(attributes))
    if (80, bytes(16)) in attributes:
        data = proved(data, secret, bytes(16))
    return data[:4] + md5(data + secret) + data[20:]


def hidden(password, secret=SECRET, authenticator=A, blocks=0):
    """A password as attribute 2 hides it, in at least so many blocks of sixteen."""
    size = 16 * max(blocks, 1, (len(password) + 15) // 16)
    filled = password + bytes(size - len(password))
    result = b""
    before = authenticator
    for place in range(0, size, 16):
        mask = md5(secret + before)
        before = bytes(x ^ y for x, y in zip(filled[place:place + 16], mask))
        result += before
    return result


def hashed(password, challenge=A, byte=b"\x21"):
    """A password as attribute 3 tells it."""
    return byte + md5(byte + password + challenge)


def plain(name=b"ann", password=b"sesame", **more):
    """An ordinary packet of code 1."""
    authenticator = more.get("authenticator", A)
    secret = more.get("secret", SECRET)
    return asking([(1, name), (2, hidden(password, secret, authenticator)), (4, b"\x7f\0\0\1")], **more)


def status(kind):
    return (40, bytes([0, 0, 0, kind]))


def session(kind, user, name, **more):
    """An ordinary packet of code 4."""
    return telling([status(kind), (1, user), (44, name)], **more)


def answer(code, request, told=(), secret=SECRET, passed=(), proof=False):
    """The answer to a packet."""
    attributes = list(told) + [(33, value) for value in passed]
    if proof:
        attributes.append((80, bytes(16)))
    authenticator = request[4:20]
    data = framed(code, request[1], authenticator, joined(attributes))
    if proof:
        place = len(data) - 16
        data = data[:place] + keyed(secret, data)
    return data[:4] + md5(data + secret) + data[20:]

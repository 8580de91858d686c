"""MD5, and the sum with a key, over lists of bytes."""

MASK = 0xffffffff
START = (0x67452301, 0xefcdab89, 0x98badcfe, 0x10325476)

# The whole parts of 2^32 times the magnitudes of the sines of 1 to 64 (radians): written out,
# since a sine can't be taken without floats.
SINES = (
    0xd76aa478, 0xe8c7b756, 0x242070db, 0xc1bdceee, 0xf57c0faf, 0x4787c62a, 0xa8304613, 0xfd469501,
    0x698098d8, 0x8b44f7af, 0xffff5bb1, 0x895cd7be, 0x6b901122, 0xfd987193, 0xa679438e, 0x49b40821,
    0xf61e2562, 0xc040b340, 0x265e5a51, 0xe9b6c7aa, 0xd62f105d, 0x02441453, 0xd8a1e681, 0xe7d3fbc8,
    0x21e1cde6, 0xc33707d6, 0xf4d50d87, 0x455a14ed, 0xa9e3e905, 0xfcefa3f8, 0x676f02d9, 0x8d2a4c8a,
    0xfffa3942, 0x8771f681, 0x6d9d6122, 0xfde5380c, 0xa4beea44, 0x4bdecfa9, 0xf6bb4b60, 0xbebfbc70,
    0x289b7ec6, 0xeaa127fa, 0xd4ef3085, 0x04881d05, 0xd9d4d039, 0xe6db99e5, 0x1fa27cf8, 0xc4ac5665,
    0xf4292244, 0x432aff97, 0xab9423a7, 0xfc93a039, 0x655b59c3, 0x8f0ccc92, 0xffeff47d, 0x85845dd1,
    0x6fa87e4f, 0xfe2ce6e0, 0xa3014314, 0x4e0811a1, 0xf7537e82, 0xbd3af235, 0x2ad7d2bb, 0xeb86d391,
)

TURNS = (7, 12, 17, 22, 5, 9, 14, 20, 4, 11, 16, 23, 6, 10, 15, 21)


def low_first(number, size):
    """Give back the bytes of a number, the lowest first."""
    return [(number >> (8 * place)) & 255 for place in range(size)]


def padded(message):
    """Give back the message, filled up to a multiple of 64 bytes."""
    zeros = (55 - len(message)) % 64
    return message + [0x80] + [0] * zeros + low_first(8 * len(message), 8)


def words_of(block):
    """Give back the sixteen words of 64 bytes."""
    return [
        block[place] | block[place + 1] << 8 | block[place + 2] << 16 | block[place + 3] << 24
        for place in range(0, 64, 4)
    ]


def stirred(state, block):
    """Give back the four words that follow the state's behind a block of sixteen words."""
    a = state[0]
    b = state[1]
    c = state[2]
    d = state[3]
    for step in range(64):
        part = step // 16
        if part == 0:
            mixed = (b & c) | ((b ^ MASK) & d)
            chosen = step
        elif part == 1:
            mixed = (d & b) | ((d ^ MASK) & c)
            chosen = (5 * step + 1) % 16
        elif part == 2:
            mixed = b ^ c ^ d
            chosen = (3 * step + 5) % 16
        else:
            mixed = c ^ (b | (d ^ MASK))
            chosen = 7 * step % 16
        total = (a + mixed + SINES[step] + block[chosen]) & MASK
        turn = TURNS[4 * part + step % 4]
        a = d
        d = c
        c = b
        b = (b + (total << turn | total >> (32 - turn))) & MASK
    return [(old + new) & MASK for old, new in zip(state, [a, b, c, d])]


def md5(message):
    """Give back the sixteen bytes of a message's sum."""
    filled = padded(message)
    state = list(START)
    for place in range(0, len(filled), 64):
        state = stirred(state, words_of(filled[place:place + 64]))
    result = []
    for word in state:
        result.extend(low_first(word, 4))
    return result


def keyed_md5(key, message):
    """Give back the sixteen bytes of a message's sum with a key of 64 bytes at most."""
    filled = key + [0] * (64 - len(key))
    inner = md5([byte ^ 0x36 for byte in filled] + message)
    return md5([byte ^ 0x5c for byte in filled] + inner)

"""Code 1: somebody asks to come in."""

from doorward.digest import md5
from doorward.packets import MESSAGE, USER_NAME, NoAnswer, attribute_bytes, check_proof, make_answer
from doorward.signs import codes

PASSWORD = 2
HASHED_PASSWORD = 3
DOOR_ADDRESS = 4
DOOR_NAME = 32
CHALLENGE = 60

LET_IN = 2
TURNED_AWAY = 3

BLOCK_SIZE = 16
MOST_HIDDEN = 128
HASHED_SIZE = 17


def answer_access(packet, secret, users, sessions):
    """Give back the answer to a packet that asks to come in."""
    check_proof(packet, packet.data, secret)
    if not packet.all_of(DOOR_ADDRESS) and not packet.all_of(DOOR_NAME):
        raise NoAnswer()
    name = packet.only(USER_NAME).value
    user = users.get(tuple(name))
    if not is_password_right(packet, secret, user):
        return make_answer(packet, secret, TURNED_AWAY, [])
    if is_limit_reached(user, name, sessions):
        return make_answer(packet, secret, TURNED_AWAY, attribute_bytes(MESSAGE, codes("too many")))
    return make_answer(packet, secret, LET_IN, user.told)


def is_password_right(packet, secret, user):
    """Tell whether the packet's password is the user's (None: no such user)."""
    # The form is looked at even without a user: a packet of wrong form isn't answered at all.
    if packet.all_of(HASHED_PASSWORD):
        if packet.all_of(PASSWORD):
            raise NoAnswer()
        hashed = read_hashed(packet)
        challenge = read_challenge(packet)
        return user is not None and md5(hashed[:1] + user.password + challenge) == hashed[1:]
    password = read_password(packet, secret)
    return user is not None and user.password == password


def read_hashed(packet):
    """Give back the byte and the sum that stand for a password."""
    hashed = packet.only(HASHED_PASSWORD).value
    if len(hashed) != HASHED_SIZE:
        raise NoAnswer()
    return hashed


def read_challenge(packet):
    """Give back the bytes that are summed behind the password."""
    if packet.all_of(CHALLENGE):
        return packet.only(CHALLENGE).value
    return packet.authenticator


def read_password(packet, secret):
    """Give back the password that is hidden in a packet."""
    hidden = packet.only(PASSWORD).value
    if len(hidden) > MOST_HIDDEN or len(hidden) % BLOCK_SIZE != 0:
        raise NoAnswer()
    password = []
    before = packet.authenticator
    for place in range(0, len(hidden), BLOCK_SIZE):
        block = hidden[place:place + BLOCK_SIZE]
        password.extend([byte ^ mask for byte, mask in zip(block, md5(secret + before))])
        before = block
    while password and password[-1] == 0:
        password.pop()
    return password


def is_limit_reached(user, name, sessions):
    """Tell whether a user has as many sessions as may be."""
    if user.limit is None:
        return False
    return len([session for session in sessions if session.user_name == name]) >= user.limit

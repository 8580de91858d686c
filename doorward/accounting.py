"""Code 4: a client tells who's there."""

from doorward.digest import md5
from doorward.packets import AUTHENTICATOR_PLACE, USER_NAME, NoAnswer, check_proof, with_zeros
from doorward.signs import codes, hex_codes

STATUS = 40
SESSION_NAME = 44

BEGINS = 1
ENDS = 2
GOES_ON = 3
CLIENT_BEGINS = 7
CLIENT_ENDS = 8

MOST_SESSIONS = 64


class Session:
    """A session: its client, its user's name and its own name."""

    def __init__(self, client, user_name, session_name):
        self.client = client
        self.user_name = user_name
        self.session_name = session_name

    def is_same(self, other):
        """Tell whether the other is this session."""
        return (
            self.client == other.client
            and self.user_name == other.user_name
            and self.session_name == other.session_name
        )

    def line(self):
        """Give back the bytes of the session's line."""
        parts = codes(str(self.client)) + codes(" ") + hex_codes(self.user_name)
        return parts + codes(" ") + hex_codes(self.session_name) + codes("\n")


def check_accounting(packet, secret):
    """Refuse a packet whose sums don't show that its client sent it."""
    blanked = with_zeros(packet.data, AUTHENTICATOR_PLACE)
    if md5(blanked + secret) != packet.authenticator:
        raise NoAnswer()
    check_proof(packet, blanked, secret)


def sessions_after(packet, client, sessions):
    """Give back the sessions as they are behind a packet; those handed in stay as they are."""
    status = read_status(packet)
    if status in (CLIENT_BEGINS, CLIENT_ENDS):
        return [session for session in sessions if session.client != client]
    told = Session(client, packet.only(USER_NAME).value, packet.only(SESSION_NAME).value)
    if status in (BEGINS, GOES_ON):
        return sessions_with(sessions, told)
    if status == ENDS:
        return [session for session in sessions if not session.is_same(told)]
    raise NoAnswer()


def read_status(packet):
    """Give back what a packet says has happened."""
    value = packet.only(STATUS).value
    if len(value) != 4 or value[:3] != [0, 0, 0]:
        raise NoAnswer()
    return value[3]


def sessions_with(sessions, told):
    """Give back the sessions with the one told, last if it wasn't there."""
    if any([session.is_same(told) for session in sessions]):
        return list(sessions)
    if len(sessions) == MOST_SESSIONS:
        raise NoAnswer()
    return sessions + [told]

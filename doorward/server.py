"""The server: what is held from a begin on."""

from doorward.access import answer_access
from doorward.accounting import check_accounting, sessions_after
from doorward.packets import NoAnswer, make_answer, read_packet

ACCESS = 1
ACCOUNTING = 4
ACCOUNTED = 5

KEPT_ANSWERS = 16
KEPT_SECONDS = 30


class Answered:
    """An answer that was given, and to what."""

    def __init__(self, client, packet, now, given):
        self.client = client
        self.number = packet.number
        self.authenticator = packet.authenticator
        self.now = now
        self.given = given

    def fits(self, client, packet, now):
        """Tell whether the packet, now, is to be answered with this again."""
        return (
            self.client == client
            and self.number == packet.number
            and self.authenticator == packet.authenticator
            and 0 <= now - self.now <= KEPT_SECONDS
        )


class Server:
    """The settings, the sessions in the order they came, and the last answers, the oldest first."""

    def __init__(self, settings):
        self.settings = settings
        self.sessions = []
        self.answered = []

    def answer(self, client, now, data):
        """Give back the answer to a client's data; NoAnswer is raised before anything changes."""
        packet = read_packet(data)
        if client not in self.settings.secrets or packet.code not in (ACCESS, ACCOUNTING):
            raise NoAnswer()
        for past in reversed(self.answered):
            if past.fits(client, packet, now):
                return past.given
        secret = self.settings.secrets[client]
        if packet.code == ACCESS:
            given = answer_access(packet, secret, self.settings.users, self.sessions)
        else:
            given = self.account(client, packet, secret)
        self.answered = self.answered[1 - KEPT_ANSWERS:] + [Answered(client, packet, now, given)]
        return given

    def account(self, client, packet, secret):
        """Take in what a client tells of its sessions, and give back the answer."""
        check_accounting(packet, secret)
        sessions = sessions_after(packet, client, self.sessions)
        # Made ahead of the change: where there's no answer, nothing happens.
        given = make_answer(packet, secret, ACCOUNTED, [])
        self.sessions = sessions
        return given

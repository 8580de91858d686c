"""The calls on one server, as rows of whole numbers."""

from doorward.packets import NoAnswer
from doorward.server import Server
from doorward.settings import WrongLine, read_settings

BEGIN = 0
PACKET = 1

TOO_LONG = -1
OUT_OF_RANGE = -2
NO_SERVER = -9
BEFORE_FIRST_LINE = -100

MOST_TEXT = 65536
MOST_PACKET = 65535
LEAST_ROOM = 4096
MOST_ROOM = 65536


class Reader:
    """Takes whole numbers and rows from a list, one behind another."""

    def __init__(self, numbers):
        self.numbers = numbers
        self.place = 0

    def has_more(self):
        """Tell whether anything is left."""
        return self.place < len(self.numbers)

    def take_number(self):
        """Give back the number that comes now."""
        self.place += 1
        return self.numbers[self.place - 1]

    def take_row(self):
        """Give back the row that comes now, with its length before it."""
        length = self.take_number()
        self.place += length
        return self.numbers[self.place - length:self.place]


class Porter:
    """Answers calls, each with a list of whole numbers; its server is None where there's none."""

    def __init__(self):
        self.server = None

    def begin(self, text):
        """Set up a new server in the place of the one before."""
        self.server = None
        if len(text) > MOST_TEXT:
            return [OUT_OF_RANGE]
        try:
            self.server = Server(read_settings(text))
        except WrongLine as e:
            return [BEFORE_FIRST_LINE - e.line_number]
        return [0]

    def answer_packet(self, client, now, most, data):
        """Answer a packet of a client."""
        if self.server is None:
            return [NO_SERVER]
        if len(data) > MOST_PACKET or not LEAST_ROOM <= most <= MOST_ROOM:
            return [OUT_OF_RANGE]
        try:
            given = self.server.answer(client, now, data)
        except NoAnswer:
            return [0]
        return [len(given)] + given

    def list_sessions(self, most):
        """Tell the sessions, a line each."""
        if self.server is None:
            return [NO_SERVER]
        if not 0 <= most <= MOST_ROOM:
            return [OUT_OF_RANGE]
        lines = []
        for session in self.server.sessions:
            lines.extend(session.line())
        if len(lines) > most:
            return [TOO_LONG]
        return [len(lines)] + lines


def answer_call(porter, reader):
    """Give back the answer to the call that comes now."""
    call = reader.take_number()
    if call == BEGIN:
        return porter.begin(reader.take_row())
    if call == PACKET:
        client = reader.take_number()
        now = reader.take_number()
        most = reader.take_number()
        return porter.answer_packet(client, now, most, reader.take_row())
    return porter.list_sessions(reader.take_number())


def answers(calls):
    """Give back the answers to calls on a new server, each with its count before it."""
    porter = Porter()
    reader = Reader(calls)
    given = []
    while reader.has_more():
        answer = answer_call(porter, reader)
        given.append(len(answer))
        given.extend(answer)
    return given

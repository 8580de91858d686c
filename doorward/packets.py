"""Packets: how they are read, and how an answer is put together."""

from doorward.digest import keyed_md5, md5

USER_NAME = 1
MESSAGE = 18
PASSED_BACK = 33
PROOF = 80

HEAD_SIZE = 20
MOST_SIZE = 4096
SUM_SIZE = 16
AUTHENTICATOR_PLACE = 4


class NoAnswer(Exception):
    """A packet isn't answered."""


class Attribute:
    """An attribute of a packet; its place is where its value begins there."""

    def __init__(self, kind, place, value):
        self.kind = kind
        self.place = place
        self.value = value


class Packet:
    """A packet of good form; its data ends where its length says."""

    def __init__(self, data, attributes):
        self.data = data
        self.code = data[0]
        self.number = data[1]
        self.authenticator = data[AUTHENTICATOR_PLACE:HEAD_SIZE]
        self.attributes = attributes

    def all_of(self, kind):
        """Give back the attributes of a kind, in order."""
        return [attribute for attribute in self.attributes if attribute.kind == kind]

    def only(self, kind):
        """Give back the one attribute of a kind."""
        found = self.all_of(kind)
        if len(found) != 1:
            raise NoAnswer()
        return found[0]


def read_packet(data):
    """Give back the packet at the beginning of the data."""
    if len(data) < HEAD_SIZE:
        raise NoAnswer()
    length = 256 * data[2] + data[3]
    if not HEAD_SIZE <= length <= min(MOST_SIZE, len(data)):
        raise NoAnswer()
    counted = data[:length]
    return Packet(counted, read_attributes(counted))


def read_attributes(data):
    """Give back the attributes behind the head, which must fill the data to its end."""
    attributes = []
    start = HEAD_SIZE
    while start < len(data):
        if start + 1 == len(data):
            raise NoAnswer()
        end = start + data[start + 1]
        if end < start + 3 or end > len(data):
            raise NoAnswer()
        attributes.append(Attribute(data[start], start + 2, data[start + 2:end]))
        start = end
    return attributes


def attribute_bytes(kind, value):
    """Give back an attribute as it stands in a packet."""
    return [kind, len(value) + 2] + value


def with_zeros(data, place):
    """Give back the data with zeros in the place of a sum."""
    return data[:place] + [0] * SUM_SIZE + data[place + SUM_SIZE:]


def check_proof(packet, data, secret):
    """Refuse a packet whose proof, if it has one, isn't the sum of the data with zeros there."""
    if not packet.all_of(PROOF):
        return
    proof = packet.only(PROOF)
    if len(proof.value) != SUM_SIZE:
        raise NoAnswer()
    if keyed_md5(secret, with_zeros(data, proof.place)) != proof.value:
        raise NoAnswer()


def make_answer(packet, secret, code, told):
    """Give back the answer to a packet; told holds the bytes of the attributes that come first."""
    body = list(told)
    for attribute in packet.all_of(PASSED_BACK):
        body.extend(attribute_bytes(PASSED_BACK, attribute.value))
    proved = len(packet.all_of(PROOF)) > 0
    if proved:
        body.extend(attribute_bytes(PROOF, [0] * SUM_SIZE))
    length = HEAD_SIZE + len(body)
    if length > MOST_SIZE:
        raise NoAnswer()
    head = [code, packet.number, length // 256, length % 256]
    if proved:
        body = body[:-SUM_SIZE] + keyed_md5(secret, head + packet.authenticator + body)
    return head + md5(head + packet.authenticator + body + secret) + body

"""The settings: the clients with their secrets, and the users with what they are told."""

from doorward.packets import MESSAGE, attribute_bytes
from doorward.signs import codes, parted

NEWLINE = 10
BLANK = 32
LAST_PRINTABLE = 126
ZERO = 48
NINE = 57
EQUALS = 61

MOST_DIGITS = 10
MOST_NUMBER = 4294967295
MOST_CLIENT = 255
MOST_SECRET = 64
MOST_USERS = 256
MOST_NAME = 63
MOST_PASSWORD = 128
MOST_WORDS = 8
MOST_LIMIT = 64
MOST_MESSAGE = 200

NUMBER_WORDS = (("service", 6), ("timeout", 27), ("idle", 28))


class WrongWords(Exception):
    """The words of a line aren't those of a setting."""


class WrongLine(Exception):
    """A line of the settings isn't one."""

    def __init__(self, line_number):
        self.line_number = line_number


class User:
    """A user; a limit of None lets any number of sessions be."""

    def __init__(self, password):
        self.password = password
        self.limit = None
        self.told = []


class Settings:
    """The secrets by client, and the users by name (a tuple of bytes)."""

    def __init__(self):
        self.secrets = {}
        self.users = {}


def read_settings(text):
    """Give back the settings that a text tells."""
    settings = Settings()
    for line_number, line in enumerate(parted(text, NEWLINE), start=1):
        try:
            take_words(settings, read_words(line))
        except WrongWords:
            raise WrongLine(line_number) from None
    return settings


def read_words(line):
    """Give back the words of a line."""
    for byte in line:
        if not BLANK <= byte <= LAST_PRINTABLE:
            raise WrongWords()
    return [word for word in parted(line, BLANK) if len(word) > 0]


def take_words(settings, words):
    """Take into the settings what the words of a line say."""
    if not words:
        return
    if words[0] == codes("client"):
        take_client(settings, words[1:])
    elif words[0] == codes("user"):
        take_user(settings, words[1:])
    else:
        raise WrongWords()


def take_client(settings, words):
    """Take a client: its number and its secret."""
    if len(words) != 2:
        raise WrongWords()
    client = read_number(words[0], MOST_CLIENT)
    secret = words[1]
    if client in settings.secrets or len(secret) > MOST_SECRET:
        raise WrongWords()
    settings.secrets[client] = secret


def take_user(settings, words):
    """Take a user: the name, the password and the words behind."""
    if not 2 <= len(words) <= 2 + MOST_WORDS:
        raise WrongWords()
    name = tuple(words[0])
    password = words[1]
    if len(name) > MOST_NAME or len(password) > MOST_PASSWORD:
        raise WrongWords()
    if name in settings.users or len(settings.users) == MOST_USERS:
        raise WrongWords()
    user = User(password)
    for word in words[2:]:
        take_user_word(user, word)
    settings.users[name] = user


def take_user_word(user, word):
    """Take one word behind a user's password."""
    if EQUALS not in word:
        raise WrongWords()
    place = word.index(EQUALS)
    label = word[:place]
    value = word[place + 1:]
    if label == codes("limit"):
        if user.limit is not None:
            raise WrongWords()
        user.limit = read_number(value, MOST_LIMIT)
    else:
        user.told.extend(read_told(label, value))


def read_told(label, value):
    """Give back the attribute in which a user is told a value."""
    if label == codes("message"):
        if not 1 <= len(value) <= MOST_MESSAGE:
            raise WrongWords()
        return attribute_bytes(MESSAGE, value)
    for known, kind in NUMBER_WORDS:
        if label == codes(known):
            return attribute_bytes(kind, four_bytes(read_number(value, MOST_NUMBER)))
    raise WrongWords()


def read_number(word, most):
    """Give back the number that a word's digits tell, if it isn't above most."""
    if not 1 <= len(word) <= MOST_DIGITS:
        raise WrongWords()
    number = 0
    for sign in word:
        if not ZERO <= sign <= NINE:
            raise WrongWords()
        number = 10 * number + sign - ZERO
    if number > most:
        raise WrongWords()
    return number


def four_bytes(number):
    """Give back a number in four bytes, the highest first."""
    return [number >> 24, number >> 16 & 255, number >> 8 & 255, number & 255]

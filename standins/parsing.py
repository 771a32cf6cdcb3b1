"""From a text, a list of bytes, to a room, or to the first error in the text."""

from standins.model import Player, Room, Rule
from standins.tokens import DIGITS, LETTERS, LineReader, TextFault, readable_text

MOST_PLAYERS = 8
MOST_RULES = 20
HEAVIEST = 1000
MOST_REQUIRED = 8

NOT_ALLOWED = 1
OUT_OF_RANGE = 3
EXISTS_ALREADY = 4
NOT_DECLARED = 5
TOO_FEW_SUBSTITUTES = 6
TOO_MANY = 7
NO_PLAYER = 9
ABSENT_SUBSTITUTE = 10

RESERVED = ("by", "any", "of", "weight")
LONGEST_NAME = 12
LONGEST_NUMBER = 4


def parse_room(codes):
    text = readable_text(codes)
    room = Room()
    start = 0
    for line in text.split("\n"):
        parse_line(room, LineReader(line, start))
        start = start + len(line) + 1
    if len(room.players) == 0:
        raise TextFault(NO_PLAYER, len(text))
    return room


def parse_line(room, reader):
    if reader.is_done():
        return
    if reader.word() == "player":
        parse_player(room, reader)
    elif reader.word() == "keep":
        parse_rule(room, reader)
    else:
        reader.fail(NOT_ALLOWED)


def parse_player(room, reader):
    if len(room.players) == MOST_PLAYERS:
        reader.fail(TOO_MANY)
    reader.advance()
    name = checked_name(reader)
    if player_number(room, name) is not None:
        reader.fail(EXISTS_ALREADY)
    reader.advance()
    take_word(reader, "weight")
    weight = take_number(reader, 0, HEAVIEST)
    if not reader.is_done():
        reader.fail(NOT_ALLOWED)
    room.players.append(Player(name, weight))


def parse_rule(room, reader):
    if len(room.rules) == MOST_RULES:
        reader.fail(TOO_MANY)
    reader.advance()
    absent = checked_player(room, reader)
    reader.advance()
    take_word(reader, "by")
    if reader.word() != "any":
        substitutes = take_substitutes(room, reader, absent)
        room.rules.append(Rule(absent, len(substitutes), substitutes))
        return
    reader.advance()
    place = reader.place()
    needed = take_number(reader, 1, MOST_REQUIRED)
    take_word(reader, "of")
    substitutes = take_substitutes(room, reader, absent)
    if needed > len(substitutes):
        raise TextFault(TOO_FEW_SUBSTITUTES, place)
    room.rules.append(Rule(absent, needed, substitutes))


def take_substitutes(room, reader, absent):
    substitutes = [take_substitute(room, reader, absent, [])]
    while not reader.is_done():
        substitutes.append(take_substitute(room, reader, absent, substitutes))
    return substitutes


def take_substitute(room, reader, absent, earlier):
    player = checked_player(room, reader)
    if player == absent:
        reader.fail(ABSENT_SUBSTITUTE)
    if player in earlier:
        reader.fail(EXISTS_ALREADY)
    reader.advance()
    return player


def checked_player(room, reader):
    player = player_number(room, checked_name(reader))
    if player is None:
        reader.fail(NOT_DECLARED)
    return player


def checked_name(reader):
    if not is_name(reader.word()):
        reader.fail(NOT_ALLOWED)
    return reader.word()


def take_word(reader, expected):
    if reader.word() != expected:
        reader.fail(NOT_ALLOWED)
    reader.advance()


def take_number(reader, least, most):
    if not is_number(reader.word()):
        reader.fail(NOT_ALLOWED)
    number = int(reader.word())
    if number < least or number > most:
        reader.fail(OUT_OF_RANGE)
    reader.advance()
    return number


def player_number(room, name):
    for number, player in enumerate(room.players):
        if player.name == name:
            return number
    return None


def is_name(word):
    if word == "" or len(word) > LONGEST_NAME or word in RESERVED:
        return False
    return word[0] in LETTERS and all([sign in LETTERS or sign in DIGITS for sign in word])


def is_number(word):
    if word == "" or len(word) > LONGEST_NUMBER:
        return False
    if word[0] == "0" and len(word) > 1:
        return False
    return all([sign in DIGITS for sign in word])

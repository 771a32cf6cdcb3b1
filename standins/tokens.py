"""The lines of a text and their tokens, each with its byte offset."""

LETTERS = "abcdefghijklmnopqrstuvwxyz"
DIGITS = "0123456789"
# Stands for every byte that no allowed token holds.
FOREIGN = "?"


class TextFault(Exception):
    def __init__(self, kind, offset):
        Exception.__init__(self, "the text is invalid")
        self.kind = kind
        self.offset = offset


class LineReader:
    def __init__(self, line, start):
        self.tokens = line_tokens(line, start)
        self.end = start + len(line)
        self.position = 0

    def is_done(self):
        return self.position == len(self.tokens)

    # The empty word stands for a missing token: no check allows it.
    def word(self):
        if self.is_done():
            return ""
        return self.tokens[self.position][1]

    def place(self):
        if self.is_done():
            return self.end
        return self.tokens[self.position][0]

    def advance(self):
        self.position = self.position + 1

    def fail(self, kind):
        raise TextFault(kind, self.place())


def line_tokens(line, start):
    tokens = []
    place = start
    for piece in line.split(" "):
        if piece != "":
            tokens.append((place, piece))
        place = place + len(piece) + 1
    return tokens


# One sign for each byte, so that places in the text are byte offsets.
def readable_text(codes):
    return "".join([readable_sign(code) for code in codes])


def readable_sign(code):
    if code == 10:
        return "\n"
    if code == 32:
        return " "
    if 48 <= code <= 57:
        return DIGITS[code - 48]
    if 97 <= code <= 122:
        return LETTERS[code - 97]
    return FOREIGN

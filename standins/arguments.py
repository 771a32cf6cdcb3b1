"""The calls as they are handed in, and the ranges of their arguments."""

# How many whole numbers stand behind each call's number, ahead of its row.
NUMBER_COUNTS = (0, 0, 0, 1, 1, 1, 1, 1, 0, 0, 0, 0, 1, 1, 1, 2, 0, 1, 2, 0)
ROW_CALLS = (0, 1, 4, 11)
TEXT_CALLS = (0, 1)
STEPS_CALLS = (4,)
COALITION_CALLS = (3, 4, 5, 6, 7)

LONGEST_TEXT = 2000
LONGEST_STEPS = 40


class Call:
    def __init__(self, number, numbers, row):
        self.number = number
        self.numbers = numbers
        self.row = row


def read_calls(handed):
    found = []
    place = 0
    while place < len(handed):
        number = handed[place]
        row_place = place + 1 + NUMBER_COUNTS[number]
        numbers = handed[place + 1:row_place]
        row = []
        place = row_place
        if number in ROW_CALLS:
            place = row_place + 1 + handed[row_place]
            row = handed[row_place + 1:place]
        found.append(Call(number, numbers, row))
    return found


def needs_room(call):
    return call.number not in TEXT_CALLS


def takes_coalition(call):
    return call.number in COALITION_CALLS


def arguments_fit(call):
    if call.number in TEXT_CALLS and not fits_text(call.row):
        return False
    if call.number in STEPS_CALLS and not fits_steps(call.row):
        return False
    return not takes_coalition(call) or 0 <= call.numbers[0] <= 255


def fits_text(row):
    return len(row) <= LONGEST_TEXT and all([0 <= code <= 255 for code in row])


def fits_steps(row):
    if len(row) > LONGEST_STEPS or len(row) % 2 != 0:
        return False
    return all([0 <= step[0] <= 7 and 1 <= step[1] <= 20 for step in pairs(row)])


def pairs(row):
    return [(row[place], row[place + 1]) for place in range(0, len(row), 2)]

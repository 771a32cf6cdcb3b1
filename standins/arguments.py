"""The calls as they are handed in, and the ranges of their arguments."""

# For each call, the least and the most of each whole number that stands ahead of its row.
NUMBER_RANGES = (
    (), (), (), ((0, 255),), ((0, 255),),
    ((0, 255),), ((0, 255),), ((0, 255),), (), (),
    (), (), ((0, 255),), ((0, 7),), ((0, 7),),
    ((0, 100), (1, 100)), (), ((1, 20),), ((0, 7), (0, 1000)), (),
)
ROW_CALLS = (0, 1, 4, 11)
TEXT_CALLS = (0, 1)
STEPS_CALLS = (4,)
PACKING_CALLS = (11,)
COALITION_CALLS = (3, 4, 5, 6, 7, 12)
PLAYER_CALLS = (13, 14, 18)
CHANCE_CALLS = (15,)
RULE_CALLS = (17,)

LONGEST_TEXT = 2000
LONGEST_PAIRS = 40
HIGHEST_PACKED = 1000000


class Call:
    def __init__(self, number, numbers, row):
        self.number = number
        self.numbers = numbers
        self.row = row


def read_calls(handed):
    found = []
    place = 0
    while place < len(handed):
        number = handed[place]
        row_place = place + 1 + len(NUMBER_RANGES[number])
        numbers = handed[place + 1:row_place]
        row = []
        place = row_place
        if number in ROW_CALLS:
            place = row_place + 1 + handed[row_place]
            row = handed[row_place + 1:place]
        found.append(Call(number, numbers, row))
    return found


def needs_room(call):
    return call.number not in TEXT_CALLS


def takes_coalition(call):
    return call.number in COALITION_CALLS


def takes_packing(call):
    return call.number in PACKING_CALLS


def takes_player(call):
    return call.number in PLAYER_CALLS


def takes_rule(call):
    return call.number in RULE_CALLS


def arguments_fit(call):
    return numbers_fit(call) and row_fits(call)


def numbers_fit(call):
    for place, limits in enumerate(NUMBER_RANGES[call.number]):
        if call.numbers[place] < limits[0] or call.numbers[place] > limits[1]:
            return False
    return call.number not in CHANCE_CALLS or call.numbers[0] <= call.numbers[1]


def row_fits(call):
    if call.number in TEXT_CALLS:
        return fits_text(call.row)
    if call.number in STEPS_CALLS:
        return fits_steps(call.row)
    return not takes_packing(call) or fits_packing(call.row)


def fits_text(row):
    return len(row) <= LONGEST_TEXT and all([0 <= code <= 255 for code in row])


def fits_steps(row):
    return is_paired(row) and all([0 <= step[0] <= 7 and 1 <= step[1] <= 20 for step in pairs(row)])


# A coalition that is too high for any room is in range here: it isn't there, which is another refusal.
def fits_packing(row):
    return is_paired(row) and all([0 <= number <= HIGHEST_PACKED for number in row])


def is_paired(row):
    return len(row) <= LONGEST_PAIRS and len(row) % 2 == 0


def pairs(row):
    return [(row[place], row[place + 1]) for place in range(0, len(row), 2)]

"""Builds lists of calls and takes lists of answers apart."""

from standins.rooms import answers


def codes(text):
    return list(text.encode("latin-1"))


def load_row(row):
    return [0, len(row)] + list(row)


def check_row(row):
    return [1, len(row)] + list(row)


def load(text):
    return load_row(codes(text))


def check(text):
    return check_row(codes(text))


def print_room():
    return [2]


def acting(coalition):
    return [3, coalition]


def check_steps(coalition, steps):
    return [4, coalition, len(steps)] + list(steps)


def closed(coalition):
    return [5, coalition]


def sufficient(coalition):
    return [6, coalition]


def blocking(coalition):
    return [7, coalition]


def minimal_sufficient():
    return [8]


def minimal_blocking():
    return [9]


def cheapest():
    return [10]


def packed(packing):
    return [11, len(packing)] + list(packing)


def returns(coalition):
    return [12, coalition]


def swings(player):
    return [13, player]


def index(player):
    return [14, player]


def continuation(a, b):
    return [15, a, b]


def counts():
    return [16]


def remove_rule(rule):
    return [17, rule]


def set_weight(player, weight):
    return [18, player, weight]


def summary():
    return [19]


def apart(flat):
    """The answers, one list each; what is left over would be an error."""
    found = []
    place = 0
    while place < len(flat):
        count = flat[place]
        answer = flat[place + 1:place + 1 + count]
        if len(answer) != count or count == 0:
            raise AssertionError(f"torn answers: {flat}")
        found.append(answer)
        place += 1 + count
    return found


def ask(*calls):
    """The answer of each call, all calls being in one list."""
    found = apart(answers([number for call in calls for number in call]))
    if len(found) != len(calls):
        raise AssertionError(f"{len(found)} answers to {len(calls)} calls")
    return found


def ask_in(text, *calls):
    """The answer of each call in a room that must be valid."""
    found = ask(load(text), *calls)
    if found[0][0] != 0:
        raise AssertionError(f"not a room: {text!r}")
    return found[1:]


def ask_behind(text, changes, calls):
    """The answer of each call in a room that is changed first; more calls than a list may hold."""
    found = []
    for place in range(0, len(calls), 70):
        answered = ask_in(text, *changes, *calls[place:place + 70])
        if any(answer[0] != 0 for answer in answered[:len(changes)]):
            raise AssertionError(f"not changed: {answered[:len(changes)]}")
        found.extend(answered[len(changes):])
    return found


def printed(text, *changes):
    """The canonical text of a room, changed first, as a text."""
    answer = ask_behind(text, changes, [print_room()])[0]
    if answer[0] != 0 or answer[1] != len(answer) - 2:
        raise AssertionError(f"not a text: {answer}")
    return bytes(answer[2:]).decode("latin-1")

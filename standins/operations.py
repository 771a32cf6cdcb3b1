"""The operations of the document, each with the numbers it answers."""

from standins.arguments import arguments_fit, needs_room, pairs, takes_coalition
from standins.coalitions import all_steps, blocks, exists, joined, nobody_joins, steps_hold, suffices
from standins.coalitions import blocking_flags, minimal_coalitions, sufficient_flags
from standins.parsing import parse_room
from standins.printing import canonical_codes
from standins.tokens import TextFault

OUT_OF_RANGE = -1
NO_ROOM = -2
INVALID_TEXT = -3
NOT_THERE = -4


def load_room(session, call):
    try:
        room = parse_room(call.row)
    except TextFault:
        return [INVALID_TEXT]
    session.room = room
    return [0, len(room.players), len(room.rules)]


def check_room(session, call):
    try:
        room = parse_room(call.row)
    except TextFault as fault:
        return [0, 1, fault.kind, fault.offset]
    return [0, 0, len(room.players), len(room.rules)]


def print_room(session, call):
    return listed(canonical_codes(session.room))


def acting_coalition(session, call):
    coalition = call.numbers[0]
    steps = all_steps(session.room, coalition)
    answer = [0, joined(coalition, steps), len(steps)]
    for step in steps:
        answer.extend(list(step))
    return answer


def check_steps(session, call):
    return judged(steps_hold(session.room, call.numbers[0], pairs(call.row)))


def is_closed(session, call):
    return judged(nobody_joins(session.room, call.numbers[0]))


def is_sufficient(session, call):
    return judged(suffices(session.room, call.numbers[0]))


def is_blocking(session, call):
    return judged(blocks(session.room, call.numbers[0]))


def minimal_sufficient(session, call):
    return listed(minimal_coalitions(sufficient_flags(session.room)))


def minimal_blocking(session, call):
    return listed(minimal_coalitions(blocking_flags(session.room)))


def listed(numbers):
    return [0, len(numbers)] + numbers


def judged(holds):
    return [0, 1 if holds else 0]


OPERATIONS = (
    load_room, check_room, print_room, acting_coalition, check_steps,
    is_closed, is_sufficient, is_blocking, minimal_sufficient, minimal_blocking,
)


def perform(session, call):
    number = call.number
    # Leaving such a call out would make the answers behind it wrong without a word.
    if number >= len(OPERATIONS):
        raise NotImplementedError(f"call {number} is not built yet")
    if not arguments_fit(call):
        return [OUT_OF_RANGE]
    if needs_room(call) and session.room is None:
        return [NO_ROOM]
    if takes_coalition(call) and not exists(session.room, call.numbers[0]):
        return [NOT_THERE]
    operation = OPERATIONS[number]
    return operation(session, call)

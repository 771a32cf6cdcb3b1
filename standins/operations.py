"""The operations of the document, each with the numbers it answers."""

from standins.arguments import arguments_fit, needs_room, pairs
from standins.arguments import takes_coalition, takes_packing, takes_player, takes_rule
from standins.chances import continuation, counts_by_size, shapley_shubik, swings
from standins.coalitions import all_steps, blocks, exists, joined, nobody_joins, steps_hold, suffices
from standins.coalitions import blocking_flags, minimal_coalitions, return_flags, sufficient_flags
from standins.parsing import parse_room
from standins.printing import canonical_codes
from standins.tokens import TextFault
from standins.weighing import bound, cheapest, packing_holds, total_weight

OUT_OF_RANGE = -1
NO_ROOM = -2
INVALID_TEXT = -3
NOT_THERE = -4


def load_room(session, call):
    try:
        room = parse_room(call.row)
    except TextFault:
        return [INVALID_TEXT]
    session.room = room
    return [0, len(room.players), len(room.rules)]


def check_room(session, call):
    try:
        room = parse_room(call.row)
    except TextFault as fault:
        return [0, 1, fault.kind, fault.offset]
    return [0, 0, len(room.players), len(room.rules)]


def print_room(session, call):
    return listed(canonical_codes(session.room))


def acting_coalition(session, call):
    coalition = call.numbers[0]
    steps = all_steps(session.room, coalition)
    answer = [0, joined(coalition, steps), len(steps)]
    for step in steps:
        answer.extend(list(step))
    return answer


def check_steps(session, call):
    return judged(steps_hold(session.room, call.numbers[0], pairs(call.row)))


def is_closed(session, call):
    return judged(nobody_joins(session.room, call.numbers[0]))


def is_sufficient(session, call):
    return judged(suffices(session.room, call.numbers[0]))


def is_blocking(session, call):
    return judged(blocks(session.room, call.numbers[0]))


def minimal_sufficient(session, call):
    return listed(minimal_coalitions(sufficient_flags(session.room)))


def minimal_blocking(session, call):
    return listed(minimal_coalitions(blocking_flags(session.room)))


def cheapest_sufficient(session, call):
    return [0] + list(cheapest(session.room))


def verify_packing(session, call):
    packing = pairs(call.row)
    if not packing_holds(session.room, packing):
        return [0, 0]
    return [0, 1, bound(packing)]


def minimal_returns(session, call):
    return listed(minimal_coalitions(return_flags(session.room, call.numbers[0])))


def swing_count(session, call):
    return [0, len(swings(session.room, call.numbers[0]))]


def power_index(session, call):
    return [0] + list(shapley_shubik(session.room, call.numbers[0]))


def continuation_probability(session, call):
    return [0] + list(continuation(session.room, call.numbers[0], call.numbers[1]))


def sufficient_counts(session, call):
    return listed(counts_by_size(session.room))


def remove_rule(session, call):
    rules = session.room.rules
    rules.pop(call.numbers[0] - 1)
    return [0, len(rules)]


def set_weight(session, call):
    player = session.room.players[call.numbers[0]]
    player.weight = call.numbers[1]
    return [0]


def summary(session, call):
    room = session.room
    return [0, len(room.players), len(room.rules), total_weight(room)]


def listed(numbers):
    return [0, len(numbers)] + numbers


def judged(holds):
    return [0, 1 if holds else 0]


OPERATIONS = (
    load_room, check_room, print_room, acting_coalition, check_steps,
    is_closed, is_sufficient, is_blocking, minimal_sufficient, minimal_blocking,
    cheapest_sufficient, verify_packing, minimal_returns, swing_count, power_index,
    continuation_probability, sufficient_counts, remove_rule, set_weight, summary,
)


def all_are_there(room, call):
    if takes_coalition(call):
        return exists(room, call.numbers[0])
    if takes_packing(call):
        return all([exists(room, pair[0]) for pair in pairs(call.row)])
    if takes_player(call):
        return call.numbers[0] < len(room.players)
    return not takes_rule(call) or call.numbers[0] <= len(room.rules)


def perform(session, call):
    if not arguments_fit(call):
        return [OUT_OF_RANGE]
    if needs_room(call) and session.room is None:
        return [NO_ROOM]
    if not all_are_there(session.room, call):
        return [NOT_THERE]
    operation = OPERATIONS[call.number]
    return operation(session, call)

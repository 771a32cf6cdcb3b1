"""Who acts when a coalition stays, and which coalitions suffice or block."""

# The numbers of the coalitions with one member, and, last, one more than eight players make.
POWERS = (1, 2, 4, 8, 16, 32, 64, 128, 256)


def everyone(room):
    return POWERS[len(room.players)] - 1


def exists(room, coalition):
    return coalition <= everyone(room)


def has_member(coalition, player):
    return (coalition & POWERS[player]) != 0


def size(coalition):
    return len([power for power in POWERS if (coalition & power) != 0])


def is_enabled(rule, coalition):
    present = [player for player in rule.substitutes if has_member(coalition, player)]
    return len(present) >= rule.needed


# One round: each player who joins the coalition, with the first enabled rule.
def round_steps(room, coalition):
    chosen = {}
    for number, rule in enumerate(room.rules, start=1):
        waits = not has_member(coalition, rule.absent) and rule.absent not in chosen
        if waits and is_enabled(rule, coalition):
            chosen[rule.absent] = number
    return [(player, chosen[player]) for player in sorted(chosen)]


def joined(coalition, steps):
    whole = coalition
    for step in steps:
        whole = whole | POWERS[step[0]]
    return whole


def all_steps(room, coalition):
    steps = []
    joining = round_steps(room, coalition)
    while len(joining) > 0:
        steps.extend(joining)
        joining = round_steps(room, joined(coalition, steps))
    return steps


def steps_hold(room, coalition, steps):
    present = coalition
    for player, number in steps:
        if number > len(room.rules):
            return False
        rule = room.rules[number - 1]
        if rule.absent != player or not is_enabled(rule, present):
            return False
        present = present | POWERS[player]
    return True


def nobody_joins(room, coalition):
    return len(round_steps(room, coalition)) == 0


def suffices(room, coalition):
    return joined(coalition, all_steps(room, coalition)) == everyone(room)


def blocks(room, coalition):
    return not suffices(room, everyone(room) - coalition)


# A coalition suffices if what it is after one round does. A round only makes the
# number larger, so going down from everyone each answer needed is there already.
def sufficient_flags(room):
    whole = everyone(room)
    flags = [False] * whole + [True]
    for coalition in reversed(range(whole)):
        flags[coalition] = flags[joined(coalition, round_steps(room, coalition))]
    return flags


def sufficient_coalitions(room):
    flags = sufficient_flags(room)
    return [coalition for coalition in range(len(flags)) if flags[coalition]]


def blocking_flags(room):
    return [not flag for flag in reversed(sufficient_flags(room))]


def return_flags(room, coalition):
    flags = sufficient_flags(room)
    return [(others & coalition) == 0 and flags[others | coalition] for others in range(len(flags))]


def minimal_coalitions(flags):
    return [coalition for coalition in range(len(flags)) if is_minimal(flags, coalition)]


def is_minimal(flags, coalition):
    if not flags[coalition]:
        return False
    for power in POWERS:
        if (coalition & power) != 0 and flags[coalition - power]:
            return False
    return True

"""What coalitions weigh, and the packings that prove how little a sufficient one can weigh."""

from standins.coalitions import blocks, everyone, has_member, sufficient_coalitions


def weight_of(room, coalition):
    return sum([player.weight for number, player in enumerate(room.players) if has_member(coalition, number)])


def total_weight(room):
    return weight_of(room, everyone(room))


# The weight stands ahead of the coalition, so of equally heavy ones the smallest number is found.
def cheapest(room):
    return min([(weight_of(room, coalition), coalition) for coalition in sufficient_coalitions(room)])


def packing_holds(room, packing):
    for pair in packing:
        if not blocks(room, pair[0]):
            return False
    for number, player in enumerate(room.players):
        if packed_on(packing, number) > player.weight:
            return False
    return True


def packed_on(packing, player):
    return sum([pair[1] for pair in packing if has_member(pair[0], player)])


def bound(packing):
    return sum([pair[1] for pair in packing])

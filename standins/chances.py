"""Swings, power indices and the probability that the game continues."""

from standins.coalitions import POWERS, has_member, size, sufficient_coalitions, sufficient_flags

# In how many orders no player, one player, and so on up to eight can arrive.
ORDERS = (1, 1, 2, 6, 24, 120, 720, 5040, 40320)


def swings(room, player):
    flags = sufficient_flags(room)
    return [coalition for coalition in range(len(flags)) if is_swing(flags, coalition, player)]


def is_swing(flags, coalition, player):
    if has_member(coalition, player) or flags[coalition]:
        return False
    return flags[coalition + POWERS[player]]


# Each swing stands for all orders in which just its members arrive ahead of the player.
def shapley_shubik(room, player):
    others = len(room.players) - 1
    ahead = [size(coalition) for coalition in swings(room, player)]
    orders = sum([ORDERS[count] * ORDERS[others - count] for count in ahead])
    return lowest_terms(orders, ORDERS[others + 1])


def counts_by_size(room):
    counts = [0] * (len(room.players) + 1)
    for coalition in sufficient_coalitions(room):
        counts[size(coalition)] = counts[size(coalition)] + 1
    return counts


# Of b equally likely chances, each player stays in a of them.
def continuation(room, a, b):
    players = len(room.players)
    chances = 0
    for staying, count in enumerate(counts_by_size(room)):
        chances = chances + count * raised(a, staying) * raised(b - a, players - staying)
    return lowest_terms(chances, raised(b, players))


def raised(base, exponent):
    product = 1
    for turn in range(exponent):
        product = product * base
    return product


def lowest_terms(numerator, denominator):
    divisor = common_divisor(numerator, denominator)
    return (numerator // divisor, denominator // divisor)


def common_divisor(first, second):
    larger = first
    smaller = second
    while smaller != 0:
        rest = larger % smaller
        larger = smaller
        smaller = rest
    return larger

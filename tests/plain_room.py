"""A second, slow way to the same answers, by sets and straight from the definitions.

A room here is the number of its players and a list of rules, each
(absent player, required number, substitutes); where weights matter, a list of them too.
"""

import random
from fractions import Fraction
from functools import lru_cache
from itertools import combinations, permutations

NAMES = "abcdefgh"


def room_text(count, rules, weights=(1,) * 8):
    lines = [f"player {name} weight {weight}" for name, weight in zip(NAMES[:count], weights)]
    for absent, needed, substitutes in rules:
        names = " ".join(NAMES[substitute] for substitute in substitutes)
        lines.append(f"keep {NAMES[absent]} by any {needed} of {names}")
    return "\n".join(lines)


def members(coalition):
    return frozenset(player for player in range(10) if coalition & 2 ** player)


def number(group):
    return sum(2 ** player for player in group)


def subsets(group):
    return [frozenset(part) for size in range(len(group) + 1) for part in combinations(sorted(group), size)]


def enabled(rule, group):
    return len(group & set(rule[2])) >= rule[1]


def is_closed(rules, group):
    return all(rule[0] in group or not enabled(rule, group) for rule in rules)


def smallest_closed(count, rules, group):
    """The intersection of all closed coalitions around the group."""
    around = [other for other in subsets(range(count)) if group <= other and is_closed(rules, other)]
    return frozenset.intersection(*around)


def steps(count, rules, group):
    found = []
    present = set(group)
    while True:
        fresh = {}
        for place, rule in enumerate(rules):
            if rule[0] not in present and enabled(rule, present):
                fresh.setdefault(rule[0], place + 1)
        if not fresh:
            return found
        for player in sorted(fresh):
            found.extend([player, fresh[player]])
        present |= set(fresh)


def sufficient(count, rules):
    return sufficient_of(count, tuple((absent, needed, tuple(others)) for absent, needed, others in rules))


@lru_cache(maxsize=None)
def sufficient_of(count, rules):
    everyone = frozenset(range(count))
    return frozenset(group for group in subsets(everyone) if smallest_closed(count, rules, group) == everyone)


def blocking(count, rules):
    everyone = frozenset(range(count))
    enough = sufficient(count, rules)
    return {group for group in subsets(everyone) if everyone - group not in enough}


def minimal(groups):
    return sorted(number(group) for group in groups if not any(group - {player} in groups for player in group))


def weight(weights, group):
    return sum(weights[player] for player in group)


def cheapest(count, rules, weights):
    return min((weight(weights, group), number(group)) for group in sufficient(count, rules))


def packing(count, rules, weights, listed):
    """The numbers of verify_packing's answer; listed are pairs of a coalition and its number."""
    block = blocking(count, rules)
    loads = [sum(packed for coalition, packed in listed if player in members(coalition)) for player in range(count)]
    if any(members(coalition) not in block for coalition, _ in listed):
        return [0]
    if any(load > most for load, most in zip(loads, weights)):
        return [0]
    return [1, sum(packed for _, packed in listed)]


def returns(count, rules, group):
    enough = sufficient(count, rules)
    others = subsets(frozenset(range(count)) - group)
    return minimal({part for part in others if part | group in enough})


def swings(count, rules, player):
    enough = sufficient(count, rules)
    without = [group for group in subsets(range(count)) if player not in group]
    return sum(1 for group in without if group not in enough and group | {player} in enough)


def indices(count, rules):
    """The power index of every player, counted over all orders."""
    enough = {number(group) for group in sufficient(count, rules)}
    found = [0] * count
    orders = list(permutations(range(count)))
    for order in orders:
        present = 0
        for player in order:
            present += 2 ** player
            if present in enough:
                found[player] += 1
                break
    return [Fraction(pivots, len(orders)) for pivots in found]


def continuation(count, rules, a, b):
    """Each coalition's own probability, summed up over the sufficient ones."""
    stays = Fraction(a, b)
    chances = [stays ** len(group) * (1 - stays) ** (count - len(group)) for group in sufficient(count, rules)]
    return sum(chances, Fraction(0))


def counts(count, rules):
    sizes = [len(group) for group in sufficient(count, rules)]
    return [sizes.count(size) for size in range(count + 1)]


def without_rule(rules, rule):
    return rules[:rule - 1] + rules[rule:]


def sample_weights(source, count):
    """Some rooms with many equal weights and zeros, some with few."""
    most = source.choice((1, 3, 20, 1000))
    return [source.randint(0, most) for _ in range(count)]


def weighted_rooms():
    source = random.Random(11)
    return [(count, rules, sample_weights(source, count)) for count, rules in sample_rooms()]


def sample_rooms():
    """Some rooms with 1 to 8 players; the same ones at every run."""
    source = random.Random(7)
    rooms = [
        (1, []), (2, []), (3, []), (8, []),
        (2, [(0, 1, [1])]), (2, [(0, 1, [1]), (1, 1, [0])]),
        (8, [(player, 1, [(player + 1) % 8]) for player in range(8)]),
        (8, [(player + 1, 1, [player]) for player in range(7)]),
        (8, [(player, 7, [other for other in range(8) if other != player]) for player in range(8)]),
        (8, [(player, 4, [other for other in range(8) if other != player]) for player in range(8)]),
    ]
    for count in (2, 3, 4, 4, 5, 5, 6, 6, 7, 8):
        rooms.append((count, [sample_rule(source, count) for _ in range(source.randint(1, 12))]))
    return rooms


def changed_rooms():
    """Rooms, a rule to be removed from each, and the rules that are left."""
    source = random.Random(13)
    found = []
    for count, rules in sample_rooms():
        if rules:
            rule = source.randint(1, len(rules))
            found.append((count, rules, rule, without_rule(rules, rule)))
    return found


def sample_rule(source, count):
    absent = source.randrange(count)
    others = [player for player in range(count) if player != absent]
    substitutes = source.sample(others, source.randint(1, len(others)))
    return (absent, source.randint(1, len(substitutes)), substitutes)

"""A second, slow way to the same answers, by sets and straight from the definitions.

A room here is the number of its players and a list of rules, each
(absent player, required number, substitutes).
"""

import random
from itertools import combinations

NAMES = "abcdefgh"


def room_text(count, rules):
    lines = [f"player {name} weight 1" for name in NAMES[:count]]
    for absent, needed, substitutes in rules:
        names = " ".join(NAMES[substitute] for substitute in substitutes)
        lines.append(f"keep {NAMES[absent]} by any {needed} of {names}")
    return "\n".join(lines)


def members(coalition):
    return frozenset(player for player in range(10) if coalition & 2 ** player)


def number(group):
    return sum(2 ** player for player in group)


def subsets(group):
    return [frozenset(part) for size in range(len(group) + 1) for part in combinations(sorted(group), size)]


def enabled(rule, group):
    return len(group & set(rule[2])) >= rule[1]


def is_closed(rules, group):
    return all(rule[0] in group or not enabled(rule, group) for rule in rules)


def smallest_closed(count, rules, group):
    """The intersection of all closed coalitions around the group."""
    around = [other for other in subsets(range(count)) if group <= other and is_closed(rules, other)]
    return frozenset.intersection(*around)


def steps(count, rules, group):
    found = []
    present = set(group)
    while True:
        fresh = {}
        for place, rule in enumerate(rules):
            if rule[0] not in present and enabled(rule, present):
                fresh.setdefault(rule[0], place + 1)
        if not fresh:
            return found
        for player in sorted(fresh):
            found.extend([player, fresh[player]])
        present |= set(fresh)


def sufficient(count, rules):
    everyone = frozenset(range(count))
    return {group for group in subsets(everyone) if smallest_closed(count, rules, group) == everyone}


def blocking(count, rules):
    everyone = frozenset(range(count))
    enough = sufficient(count, rules)
    return {group for group in subsets(everyone) if everyone - group not in enough}


def minimal(groups):
    return sorted(number(group) for group in groups if not any(group - {player} in groups for player in group))


def sample_rooms():
    """Some rooms with 1 to 8 players; the same ones at every run."""
    source = random.Random(7)
    rooms = [
        (1, []), (2, []), (3, []), (8, []),
        (2, [(0, 1, [1])]), (2, [(0, 1, [1]), (1, 1, [0])]),
        (8, [(player, 1, [(player + 1) % 8]) for player in range(8)]),
        (8, [(player + 1, 1, [player]) for player in range(7)]),
        (8, [(player, 7, [other for other in range(8) if other != player]) for player in range(8)]),
        (8, [(player, 4, [other for other in range(8) if other != player]) for player in range(8)]),
    ]
    for count in (2, 3, 4, 4, 5, 5, 6, 6, 7, 8):
        rooms.append((count, [sample_rule(source, count) for _ in range(source.randint(1, 12))]))
    return rooms


def sample_rule(source, count):
    absent = source.randrange(count)
    others = [player for player in range(count) if player != absent]
    substitutes = source.sample(others, source.randint(1, len(others)))
    return (absent, source.randint(1, len(substitutes)), substitutes)

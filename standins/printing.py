"""The canonical text of a room."""


def canonical_codes(room):
    lines = [player_line(player) for player in room.players]
    lines.extend([rule_line(room, rule) for rule in room.rules])
    return [ord(sign) for sign in "".join(lines)]


def player_line(player):
    name = player.name
    weight = player.weight
    return f"player {name} weight {weight}\n"


def rule_line(room, rule):
    words = ["keep", room.players[rule.absent].name, "by"]
    if rule.needed < len(rule.substitutes):
        words.extend(["any", str(rule.needed), "of"])
    words.extend([room.players[substitute].name for substitute in rule.substitutes])
    return " ".join(words) + "\n"

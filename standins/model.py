"""The room: its players, its rules, and the session that holds it."""


class Player:
    def __init__(self, name, weight):
        self.name = name
        self.weight = weight


class Rule:
    def __init__(self, absent, needed, substitutes):
        self.absent = absent
        self.needed = needed
        self.substitutes = substitutes


class Room:
    def __init__(self):
        self.players = []
        self.rules = []


class Session:
    def __init__(self):
        self.room = None

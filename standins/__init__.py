"""Substitution rules: which coalitions can continue a game."""

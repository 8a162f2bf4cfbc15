"""Gameround: a season of games and its table."""

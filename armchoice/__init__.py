"""Bandits with exact probabilities: which of several covers to show."""

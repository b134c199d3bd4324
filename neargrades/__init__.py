"""Neargrades: how near states of systems of any kind are, on any scale."""

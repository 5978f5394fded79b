"""Manyboard: one leader and however many followers at a board."""

"""Patterns on a strip that repeats for ever: see borders.strips."""

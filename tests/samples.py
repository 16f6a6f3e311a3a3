"""Guessers that several tests use."""

NONE = ("none",)
SIMPLE = [
    NONE,
    ("next", 1), ("next", 2), ("next", 3),
    ("stride", 1), ("stride", 2), ("stride", 3),
    ("pairs", 1), ("pairs", 2),
]


def within(boths, guesser, side):
    """The guesser with so many boths around it, on the one side or the other one."""
    for _ in range(boths):
        guesser = ("both", guesser, NONE) if side == 0 else ("both", NONE, guesser)
    return guesser

"""Guessers that several tests use."""

NONE = ("none",)
SIMPLE = [
    NONE,
    ("next", 1), ("next", 2), ("next", 3),
    ("stride", 1), ("stride", 2), ("stride", 3),
    ("pairs", 1), ("pairs", 2),
]


def within(boths, guesser, side):
    """The guesser with so many boths around it, on the one side or the other one."""
    for _ in range(boths):
        guesser = ("both", guesser, NONE) if side == 0 else ("both", NONE, guesser)
    return guesser


MIXED = [
    ("both", ("next", 1), ("stride", 1)), ("both", ("stride", 2), ("next", 3)),
    ("both", ("pairs", 2), ("next", 1)), ("both", NONE, ("both", ("stride", 1), ("both", ("pairs", 1), NONE))),
]
MEMORY = (10, 21, 32, 43, 54, 65, 76, 87)
RIGHT = (MEMORY, 2, 0, 1)
WEIGHTS = (1, 2, 3)


def setting(room, late, most, memory=MEMORY):
    return (memory, room, late, most)


def reads(*places):
    return [("read", place) for place in places]


def mixed_row(length, places, step):
    """Reads and writes all over so many places, by a rule that hits some of them more often."""
    row = []
    for turn in range(length):
        place = (turn * turn // 3 + turn * step) % places
        row.append(("write", place, (turn * 7 + step) % 100) if turn % 3 == 1 else ("read", place))
    return row

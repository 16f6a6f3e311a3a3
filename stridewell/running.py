"""What is told of a row under a setting and a guesser."""

from stridewell.checks import check_row, check_setting
from stridewell.guessers import check_guesser
from stridewell.turns import counts_of, played


def checked_play(setting, guesser, row):
    """The play of a row, unless something that was handed in is refused."""
    check_setting(setting)
    check_guesser(guesser)
    check_row(setting, row)
    return played(setting, guesser, row)


def run(setting, guesser, row):
    """The numbers that are read, memory at the end, and the counts."""
    play = checked_play(setting, guesser, row)
    return play.answers, tuple(play.memory), counts_of(play)


def story(setting, guesser, row):
    """All that happens, in order: a list of (turn, word, place)."""
    return checked_play(setting, guesser, row).events

"""Texts: guessers written and read."""

from stridewell.errors import BadText
from stridewell.guessers import check_guesser

NUMBERED = ("next", "stride", "pairs")
FIGURES = ("0", "1", "2", "3", "4", "5", "6", "7", "8", "9")


def words_of(guesser):
    """The words of a guesser that has been checked."""
    match guesser:
        case ("both", one, other):
            return ["both"] + words_of(one) + words_of(other)
        case (word, number):
            return [word, str(number)]
        case _:
            return ["none"]


def written(guesser):
    """The text of a guesser."""
    check_guesser(guesser)
    return " ".join(words_of(guesser))


def needs_of(word):
    """What must come behind a word that belongs to it, each a "number" or a "guesser"."""
    if word in NUMBERED:
        return ["number"]
    if word == "both":
        return ["guesser", "guesser"]
    return []


def can_stand(word, need):
    """Tell whether a word can stand where a number or a guesser must come."""
    if need == "number":
        return word in FIGURES
    return word in NUMBERED or word in ("none", "both")


def check_words(words):
    """Refuse words that are not those of one guesser, whatever its numbers are."""
    needs = ["guesser"]
    for place, word in enumerate(words):
        if not needs or not can_stand(word, needs.pop()):
            raise BadText(place)
        needs.extend(needs_of(word))
    if needs:
        raise BadText(len(words))


def made(words):
    """The tuple of words that have been checked; its numbers may be beyond a guesser's."""
    parts = []
    # From the last word to the first, so that what belongs to a word has been made ahead of it.
    for word in reversed(words):
        if word in FIGURES:
            parts.append(int(word))
        else:
            taken = [parts.pop() for _ in needs_of(word)]
            parts.append((word, *taken))
    return parts.pop()


def read(text):
    """The guesser of a text."""
    # Each blank parts two words: where a blank is too much, there is an empty word, which can't stand anywhere.
    words = text.split(" ")
    check_words(words)
    guesser = made(words)
    check_guesser(guesser)
    return guesser

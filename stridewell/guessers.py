"""Guessers: what each sort of them guesses behind the places that it is told."""

from stridewell.errors import BadGuesser

MOST_BOTHS = 3


class Silent:
    """The guesser "none"."""

    def guess(self, place):
        return []


class Neighbours:
    """The guesser "next"."""

    def __init__(self, many):
        self.many = many

    def guess(self, place):
        return [place + step for step in range(1, self.many + 1)]


class Strides:
    """The guesser "stride": it counts how many strides in a row were the same."""

    def __init__(self, times):
        self.times = times
        self.last = None
        self.stride = 0
        self.same = 0

    def guess(self, place):
        if self.last is not None:
            self.count_stride(place - self.last)
        self.last = place
        if self.stride == 0 or self.same < self.times:
            return []
        return [place + self.stride]

    def count_stride(self, stride):
        self.same = self.same + 1 if stride == self.stride else 1
        self.stride = stride


class Pairs:
    """The guesser "pairs": of each place it keeps what came behind it, the latest first."""

    def __init__(self, many):
        self.many = many
        self.last = None
        self.followers = {}

    def guess(self, place):
        # First of all this place came behind the last one: of 3 3 the second 3 is guessed.
        if self.last is not None:
            self.put_behind(self.last, place)
        self.last = place
        # A copy, for whoever gets the list may change it.
        return list(self.followers.get(place, []))

    def put_behind(self, earlier, place):
        others = [other for other in self.followers.get(earlier, []) if other != place]
        self.followers[earlier] = [place, *others][:self.many]


class Both:
    """The guesser "both", of two that are told places themselves."""

    def __init__(self, one, other):
        self.one = one
        self.other = other

    def guess(self, place):
        # Both must be told each place, whatever the one guesses.
        first = self.one.guess(place)
        second = self.other.guess(place)
        return first + [guessed for guessed in second if guessed not in first]


def is_guesser(guesser, boths):
    """Tell whether this is a guesser where it stands within so many boths."""
    if not isinstance(guesser, tuple):
        return False
    match guesser:
        case ("none",):
            return True
        case ("next", many):
            return many in (1, 2, 3)
        case ("stride", times):
            return times in (1, 2, 3)
        case ("pairs", many):
            return many in (1, 2)
        case ("both", one, other):
            # The depth is tested first, so that no tuple is followed deeper than it may be.
            return boths < MOST_BOTHS and is_guesser(one, boths + 1) and is_guesser(other, boths + 1)
        case _:
            return False


def check_guesser(guesser):
    """Refuse what is no guesser."""
    if not is_guesser(guesser, 0):
        raise BadGuesser("this is no guesser")


def begun(guesser):
    """An object that has been told no place yet, for a guesser that has been checked."""
    match guesser:
        case ("next", many):
            return Neighbours(many)
        case ("stride", times):
            return Strides(times)
        case ("pairs", many):
            return Pairs(many)
        case ("both", one, other):
            return Both(begun(one), begun(other))
        case _:
            return Silent()


def guesses(guesser, places):
    """A list with the list of what the guesser guesses behind each place."""
    check_guesser(guesser)
    told = begun(guesser)
    return [told.guess(place) for place in places]

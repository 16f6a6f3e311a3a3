"""Settings and rows: what is none of them is refused."""

from stridewell.errors import BadRow, BadSetting

PARTS = ("memory", "room", "late", "most")
BOUNDS = {"room": (1, 8), "late": (0, 4), "most": (1, 4)}
MOST_PLACES = 32
MOST_DEEDS = 100
HIGHEST = 99


def is_number(number):
    """Tell whether a place of a memory can hold this number."""
    return 0 <= number <= HIGHEST


def is_memory(numbers):
    """Tell whether this is a memory of as many numbers as there may be."""
    return 1 <= len(numbers) <= MOST_PLACES and all(is_number(number) for number in numbers)


def is_part(word, part):
    """Tell whether this part of a setting is what its word stands for."""
    if word == "memory":
        return is_memory(part)
    low, high = BOUNDS[word]
    return low <= part <= high


def check_setting(setting):
    """Refuse what is no setting, with the first of its words that is none."""
    for at, word in enumerate(PARTS):
        if at >= len(setting) or not is_part(word, setting[at]):
            raise BadSetting(word)
    if len(setting) > len(PARTS):
        # Each word is right, and the document names no other one for a part too many.
        raise BadSetting(PARTS[-1])


def is_deed(deed, places):
    """Tell whether this is a deed on a memory of so many places."""
    match deed:
        case ("read", place):
            return 0 <= place < places
        case ("write", place, number):
            return 0 <= place < places and is_number(number)
        case _:
            return False


def check_row(setting, row):
    """Refuse what is no row on the memory of a setting that has been checked."""
    places = len(setting[0])
    for number, deed in enumerate(row):
        if number == MOST_DEEDS or not is_deed(deed, places):
            raise BadRow(number)

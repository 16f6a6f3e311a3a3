"""What guessers and rows tell, straight from the document's words; slow, and told nothing by the program.

Of a row nothing is kept but its story: what lies on the shelf and what is on the way is found in it anew.
"""

LAID_OR_ASKED = ("come", "hit", "first", "late", "miss")


def behind_last(guesser, places):
    """What is guessed behind the last of the places, straight from the document's words."""
    word, *parts = guesser
    here = places[-1]
    if word == "none":
        return []
    if word == "next":
        return [here + 1, here + 2, here + 3][:parts[0]]
    if word == "stride":
        strides = [b - a for a, b in zip(places, places[1:])]
        last = strides[-parts[0]:]
        if len(last) == parts[0] and last[0] != 0 and last == last[:1] * parts[0]:
            return [here + last[0]]
        return []
    if word == "pairs":
        came = [b for a, b in zip(places, places[1:]) if a == here]
        return list(dict.fromkeys(reversed(came)))[:parts[0]]
    return list(dict.fromkeys(behind_last(parts[0], places) + behind_last(parts[1], places)))


def shelf_of(told):
    """The places on the shelf, the one that was laid or asked longest ago first."""
    shelf = []
    for _, word, place in told:
        if word != "start":
            shelf = [other for other in shelf if other != place]
        if word in LAID_OR_ASKED:
            shelf.append(place)
    return shelf


def way_of(told):
    """(turn, place) of all that is on the way, in the order in which it was started."""
    way = []
    for turn, word, place in told:
        if word == "start":
            way.append((turn, place))
        if word in ("come", "late"):
            way = [pair for pair in way if pair[1] != place]
    return way


def is_unasked(told, place):
    """Whether what lies on the shelf was fetched ahead and not asked since."""
    return [word for _, word, other in told if other == place and word in LAID_OR_ASKED][-1] == "come"


def lay(told, room, turn, word, place):
    shelf = shelf_of(told)
    if len(shelf) == room:
        told.append((turn, "waste" if is_unasked(told, shelf[0]) else "leave", shelf[0]))
    told.append((turn, word, place))


def story_of(setting, guesser, row):
    memory, room, late, most = setting
    told = []
    for turn, deed in enumerate(row):
        for since, place in way_of(told):
            if turn == since + late + 1:
                lay(told, room, turn, "come", place)
        place = deed[1]
        if place in shelf_of(told):
            told.append((turn, "first" if is_unasked(told, place) else "hit", place))
        elif place in [other for _, other in way_of(told)]:
            lay(told, room, turn, "late", place)
        else:
            lay(told, room, turn, "miss", place)
        for guessed in behind_last(guesser, [other[1] for other in row[:turn + 1]]):
            way = [other for _, other in way_of(told)]
            if guessed in range(len(memory)) and guessed not in shelf_of(told) + way and len(way) < most:
                told.append((turn, "start", guessed))
    return told


def numbers_of(memory, row):
    """The numbers that are read and memory at the end, where there is no shelf."""
    answers = []
    numbers = list(memory)
    for word, place, *number in row:
        if word == "read":
            answers.append(numbers[place])
        else:
            numbers[place] = number[0]
    return answers, tuple(numbers)


def counts_of(told):
    words = [word for _, word, _ in told]
    idle = [place for place in shelf_of(told) if is_unasked(told, place)] + way_of(told)
    return (
        words.count("hit") + words.count("first"), words.count("late"), words.count("miss"),
        words.count("start"), words.count("first") + words.count("late"), words.count("waste"), len(idle),
    )


def cost_of(setting, guesser, row, weights):
    _, lates, misses, _, _, wasted, idle = counts_of(story_of(setting, guesser, row))
    return lates * weights[0] + misses * weights[1] + (wasted + idle) * weights[2]

"""Turns: what comes, the deed, and what is started, with one memory and one shelf."""

from stridewell.guessers import begun


class Play:
    """A row that is being played, of a setting and a guesser that have been checked."""

    def __init__(self, setting, guesser):
        memory, self.room, self.late, self.most = setting
        # A list of its own, for deeds write to it.
        self.memory = list(memory)
        self.watcher = begun(guesser)
        # The numbers by their places. What was laid or asked longest ago is always the first key.
        self.shelf = {}
        # The places on the shelf that were fetched ahead and not asked since.
        self.unasked = {}
        # The turns in which places were started, by these places, in their order.
        self.way = {}
        self.turn = 0
        self.events = []
        self.answers = []

    def take_turn(self, turn, deed):
        self.turn = turn
        place = deed[1]
        self.lay_what_comes()
        self.ask(place)
        self.read_or_write(deed)
        self.start_guessed(place)

    def tell(self, word, place):
        self.events.append((self.turn, word, place))

    def lay_what_comes(self):
        coming = [place for place, since in self.way.items() if self.turn - since == self.late + 1]
        for place in coming:
            del self.way[place]
            self.lay(place, "come")
            self.unasked[place] = True

    def ask(self, place):
        if place in self.shelf:
            self.ask_on_shelf(place)
        elif place in self.way:
            del self.way[place]
            self.lay(place, "late")
        else:
            self.lay(place, "miss")

    def ask_on_shelf(self, place):
        if place in self.unasked:
            del self.unasked[place]
            self.tell("first", place)
        else:
            self.tell("hit", place)
        # Taken off and laid again, so that it is the last key.
        number = self.shelf.pop(place)
        self.shelf[place] = number

    def lay(self, place, word):
        if len(self.shelf) == self.room:
            self.let_oldest_leave()
        self.shelf[place] = self.memory[place]
        self.tell(word, place)

    def let_oldest_leave(self):
        oldest = list(self.shelf)[0]
        del self.shelf[oldest]
        if oldest in self.unasked:
            del self.unasked[oldest]
            self.tell("waste", oldest)
        else:
            self.tell("leave", oldest)

    def read_or_write(self, deed):
        match deed:
            case ("write", place, number):
                self.shelf[place] = number
                self.memory[place] = number
            case ("read", place):
                self.answers.append(self.shelf[place])

    def start_guessed(self, place):
        for guessed in self.watcher.guess(place):
            if self.may_start(guessed):
                self.way[guessed] = self.turn
                self.tell("start", guessed)

    def may_start(self, place):
        if not 0 <= place < len(self.memory):
            return False
        return place not in self.shelf and place not in self.way and len(self.way) < self.most


def played(setting, guesser, row):
    """The play of a whole row; setting, guesser and row have been checked."""
    play = Play(setting, guesser)
    for turn, deed in enumerate(row):
        play.take_turn(turn, deed)
    return play


def counts_of(play):
    """The counts of a play that has ended: hits, lates, misses, ahead, used, wasted, idle."""
    words = [event[1] for event in play.events]
    firsts = words.count("first")
    lates = words.count("late")
    idle = len(play.unasked) + len(play.way)
    return (
        words.count("hit") + firsts, lates, words.count("miss"),
        words.count("start"), firsts + lates, words.count("waste"), idle,
    )

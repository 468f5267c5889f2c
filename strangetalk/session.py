"""One session: the words, the things and the talks of the strangers, and the readings that are left."""

from strangetalk.readings import every_reading, how_many, is_mistaken, things_meant

NOTHING_THERE = -2
NO_SUCH = -22
NO_ROOM = -28
NO_READING = -61

MOST_TALKS = 24


class Session:
    """Each call answers a list: the number that's answered first, then what else is answered."""

    def __init__(self):
        self.word_count = 0
        self.most_mistaken = 0
        self.talks = []
        # Each reading that is left, with how many talks are mistaken by it.
        self.readings = {}

    def wl_start(self, n, f):
        if n < 2 or n > 6 or f > 3:
            return [NO_SUCH]
        self.word_count = n
        self.most_mistaken = f
        self.talks = []
        self.readings = {}
        for reading in every_reading(n):
            self.readings[reading] = 0
        return [0]

    def wl_talk(self, words, things):
        if words == 0 or self.is_beyond(words) or self.is_beyond(things):
            return [NO_SUCH]
        if len(self.talks) == MOST_TALKS:
            return [NO_ROOM]
        self.talks.append((words, things))
        self.readings = self.readings_behind(words, things)
        return [len(self.readings)]

    def wl_means(self, word):
        if word >= self.word_count:
            return [NO_SUCH]
        if len(self.readings) == 0:
            return [NO_READING]
        things = self.sure_and_possible(1 << word)[1]
        return [how_many(things, self.word_count), things]

    def wl_says(self, words):
        if self.is_beyond(words):
            return [NO_SUCH]
        if len(self.readings) == 0:
            return [NO_READING]
        sure, possible = self.sure_and_possible(words)
        return [1 if sure == possible else 0, sure, possible]

    def wl_mistaken(self, talk):
        if talk >= len(self.talks):
            return [NOTHING_THERE]
        if len(self.readings) == 0:
            return [NO_READING]
        words, things = self.talks[talk]
        against = sum([1 for reading in self.readings if is_mistaken(reading, words, things)])
        if against == len(self.readings):
            return [2]
        return [1 if against > 0 else 0]

    def wl_apart(self, u, v):
        if u >= self.word_count or v >= self.word_count:
            return [NO_SUCH]
        return [sum([((words >> u) ^ (words >> v)) & 1 for words, things in self.talks])]

    def wl_ask(self):
        if len(self.readings) == 0:
            return [NO_READING]
        for word in range(self.word_count):
            sure, possible = self.sure_and_possible(1 << word)
            if sure != possible:
                return [word]
        return [NOTHING_THERE]

    def wl_left(self):
        return [len(self.readings)]

    def is_beyond(self, members):
        """Whether a set, of words or of things, has one that there isn't."""
        return members >> self.word_count != 0

    def readings_behind(self, words, things):
        """The readings that are left behind one more talk."""
        # A reading that has gone can't come back: what is mistaken by it only grows.
        left = {}
        for reading, mistaken in self.readings.items():
            if is_mistaken(reading, words, things):
                mistaken += 1
            if mistaken <= self.most_mistaken:
                left[reading] = mistaken
        return left

    def sure_and_possible(self, words):
        """The things that words mean by each reading, and those by some, where one reading at least is left."""
        sure = (1 << self.word_count) - 1
        possible = 0
        for reading in self.readings:
            things = things_meant(reading, words)
            sure &= things
            possible |= things
        return sure, possible

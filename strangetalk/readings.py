"""Readings: a reading is a tuple that holds, word by word, the set of the one thing that the word means."""


def every_reading(n):
    """All readings of n words and n things, ahead of any talk."""
    readings = [()]
    for word in range(n):
        longer = []
        for reading in readings:
            for thing in range(n):
                if 1 << thing not in reading:
                    longer.append(reading + (1 << thing,))
        readings = longer
    return readings


def things_meant(reading, words):
    """The set of the things that a set of words means by a reading."""
    things = 0
    for word, thing in enumerate(reading):
        if words >> word & 1:
            things |= thing
    return things


def is_mistaken(reading, words, things):
    """Whether a talk that said these words and pointed at these things is mistaken by a reading."""
    return things_meant(reading, words) != things


def how_many(things, n):
    """How many of the n things are in a set."""
    return sum([things >> thing & 1 for thing in range(n)])
